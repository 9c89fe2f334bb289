"""Points 2.7, 2.8 and 2.11 to 2.13 for texts of programs."""

import unittest

from odds.errors import InvalidSyntax, InvalidToken, TooDeep
from odds.parser import parse_program
from odds.tokens import spell, tokenize
from tests.grammar import Reader, place_of_fault, terminal
from tests.support import EXAMPLE, EXAMPLE_PROGRAM, Case, Numbers, chain, few_calls

A, B, X = ("var", "a"), ("var", "b"), ("var", "x")
ONE, TWO = ("num", 1), ("num", 2)

# Every choice of the grammar occurs in this program.
WHOLE = """int x; bool b; array t[3];
proc f(int a, bool c) int { int y; bool z; y := a; return (if c then y else -a); }
proc g() bool { return true; }
main 2 {
  skip; t[x] := 5; x := min(1, x) * 2; b ~ flip(1, 3); x ~ uniform(0, 2);
  x ~ pick(x + 1 : 1, 4 : t[0]); observe not b; weigh(x, 4); assert x != 0; fail;
  if b { skip; } else { repeat 3 { } } if b { }
  while x < 3 max 5 { } for x from 0 to 2 { call f(x, b) to x; } call g() to b;
}
return x, max(1, 2) div 3 and (false) or 1 <= 2;"""

# One token of each kind that may stand in a text.
EACH_TOKEN = (
    "x 7 int bool array proc main return skip flip uniform pick observe weigh assert fail if then "
    "else repeat while max for from to call and or not true false min div mod ( ) [ ] { } , ; : := "
    "~ + - * = != < <=").split()

# Programs with a place for an expression.
PLACES = (
    "main 0 { } return @;", "main 0 { } return 1, @;", "main 0 { x := @; } return;",
    "main 0 { t[@] := 1; } return;", "main 0 { t[1] := @; } return;",
    "main 0 { x ~ flip(@, 1); } return;", "main 0 { x ~ flip(1, @); } return;",
    "main 0 { x ~ uniform(@, 1); } return;", "main 0 { x ~ uniform(1, @); } return;",
    "main 0 { x ~ pick(@ : 1); } return;", "main 0 { x ~ pick(1 : @); } return;",
    "main 0 { x ~ pick(1 : 1, @ : 1); } return;", "main 0 { x ~ pick(1 : 1, 1 : @); } return;",
    "main 0 { observe @; } return;", "main 0 { weigh(@, 1); } return;",
    "main 0 { weigh(1, @); } return;", "main 0 { assert @; } return;",
    "main 0 { if @ { } } return;", "main 0 { while @ max 1 { } } return;",
    "main 0 { call f(@) to x; } return;", "main 0 { call f(1, @) to x; } return;",
    "main 0 { if a { x := @; } } return;", "main 0 { if a { } else { x := @; } } return;",
    "main 0 { repeat 1 { x := @; } } return;", "main 0 { while a max 1 { x := @; } } return;",
    "main 0 { for a from 1 to 1 { if a { observe @; } } } return;",
    "proc f() int { return @; } main 0 { } return;",
    "proc f() int { x := @; return 1; } main 0 { } return;",
    "proc f() int { return 1; } proc g() int { repeat 1 { x := @; } return 1; } main 0 { } return;",
)


def in_body(statements):
    """The body of a program with these statements."""
    return parse_program("main 0 { " + statements + " } return;")[3]


class ProgramsTest(Case):

    def test_examples(self):
        self.same(parse_program("int x; main 0 { x := 1; } return x;"),
                  ((("int", "x", 0),), (), 0, (("set", "x", ONE),), (X,)))
        self.same(parse_program(EXAMPLE), EXAMPLE_PROGRAM)

    def test_least_program(self):
        self.same(parse_program("main 0 { } return;"), ((), (), 0, (), ()))
        self.same(parse_program("main 999999999{}return;"), ((), (), 999999999, (), ()))

    def test_blanks_and_comments(self):
        self.same(parse_program(spell(tokenize(EXAMPLE))), EXAMPLE_PROGRAM)
        self.same(parse_program("# int y;\n" + EXAMPLE.replace("\n", " # }\n\n") + "# end"),
                  EXAMPLE_PROGRAM)

    def test_declarations(self):
        program = parse_program("int a; array b[0]; bool c; int a; array d[999999999]; main 1 { } "
                                "return;")
        self.same(program[0], (("int", "a", 0), ("array", "b", 0), ("bool", "c", 0),
                               ("int", "a", 0), ("array", "d", 999999999)))

    def test_procedures(self):
        program = parse_program(
            "proc f() int { return 1; } proc g(bool a) bool { int x; bool y; skip; fail; return a; }"
            "proc f(int a, int b, bool a) int { return x; } main 0 { } return;")
        self.same(program[1], (
            ("f", "int", (), (), (), ONE),
            ("g", "bool", (("bool", "a"),), (("int", "x"), ("bool", "y")), (("skip",), ("fail",)), A),
            ("f", "int", (("int", "a"), ("int", "b"), ("bool", "a")), (), (), X)))

    def test_results(self):
        for text, results in (("", ()), (" 1", (ONE,)), (" 1, x, 2", (ONE, X, TWO)),
                              (" (a)", (A,))):
            self.same(parse_program(f"main 0 {{ }} return{text};")[4], results)


class StatementsTest(Case):

    def test_each_statement(self):
        for text, statement in (
                ("skip;", ("skip",)), ("fail;", ("fail",)), ("x := a;", ("set", "x", A)),
                ("t[a] := b;", ("store", "t", A, B)), ("x ~ flip(a, b);", ("flip", "x", A, B)),
                ("x ~ uniform(a, b);", ("uniform", "x", A, B)),
                ("x ~ pick(a : b);", ("pick", "x", ((A, B),))),
                ("x ~ pick(a : b, 1 : 2, b : a);", ("pick", "x", ((A, B), (ONE, TWO), (B, A)))),
                ("observe a;", ("observe", A)), ("weigh(a, b);", ("weigh", A, B)),
                ("assert a;", ("assert", A)), ("if a { }", ("if", A, (), ())),
                ("if a { } else { }", ("if", A, (), ())),
                ("if a { skip; } else { fail; }", ("if", A, (("skip",),), (("fail",),))),
                ("if a { } else { skip; fail; }", ("if", A, (), (("skip",), ("fail",)))),
                ("repeat 7 { skip; }", ("repeat", 7, (("skip",),))),
                ("repeat 0 { }", ("repeat", 0, ())),
                ("while a max 9 { skip; }", ("while", A, 9, (("skip",),))),
                ("while max(a, b) max 9 { }", ("while", ("max", A, B), 9, ())),
                ("for x from 2 to 1 { skip; }", ("for", "x", 2, 1, (("skip",),))),
                ("call f() to x;", ("call", "f", (), "x")),
                ("call f(a) to x;", ("call", "f", (A,), "x")),
                ("call f(a, 1, b) to x;", ("call", "f", (A, ONE, B), "x"))):
            self.same(in_body(text), (statement,), text)
            self.same(in_body("skip; " + text + " fail;"), (("skip",), statement, ("fail",)), text)
            inner = (statement, statement)
            self.same(in_body(f"if a {{ {text} {text} }} else {{ {text} }}"),
                      (("if", A, inner, (statement,)),))
            self.same(in_body(f"repeat 1 {{ {text} {text} }}"), (("repeat", 1, inner),))
            self.same(parse_program(f"proc f() int {{ {text} return 1; }} main 0 {{ }} return;")[1],
                      (("f", "int", (), (), (statement,), ONE),))

    def test_expressions_end_where_they_should(self):
        self.same(in_body("if not a { } x := -b; while a or b max 1 { } observe t[1] = 2;"), (
            ("if", ("not", A), (), ()), ("set", "x", ("neg", B)), ("while", ("or", A, B), 1, ()),
            ("observe", ("eq", ("item", "t", ONE), TWO))))

    def test_else_belongs_to_the_last_if(self):
        self.same(in_body("if a { if b { } } else { skip; }"),
                  (("if", A, (("if", B, (), ()),), (("skip",),)),))
        self.same(in_body("if a { if b { } else { skip; } }"),
                  (("if", A, (("if", B, (), (("skip",),)),), ()),))


class FaultsTest(Case):

    def test_every_beginning(self):
        tokens = tokenize(WHOLE)
        for at in range(len(tokens)):
            self.refuses_at(InvalidSyntax, at, parse_program, spell(tokens[:at]))

    def test_every_token_at_every_place(self):
        tokens = tokenize(WHOLE)
        reader = Reader("program")
        for at, token in enumerate(tokens):
            allowed = reader.expected()
            for other in EACH_TOKEN:
                text = spell(tokens[:at] + [other])
                if terminal(other) not in allowed:
                    self.refuses_at(InvalidSyntax, at, parse_program, text)
                elif place_of_fault("program", tokens[:at] + [other]) is not None:
                    self.refuses_at(InvalidSyntax, at + 1, parse_program, text)
            self.assertTrue(reader.read(token))

    def test_behind_the_end(self):
        many = len(tokenize(EXAMPLE))
        for other in EACH_TOKEN:
            self.refuses_at(InvalidSyntax, many, parse_program, EXAMPLE + other)
        self.refuses_at(InvalidSyntax, many, parse_program, EXAMPLE + EXAMPLE)

    def test_places(self):
        for text, at in (
                ("", 0), ("return", 0), ("int", 1), ("int 1", 1), ("int x", 2), ("int x , y ;", 2),
                ("int x ; ;", 3), ("array t ;", 2), ("array t [ ]", 3), ("array t [ 1 + 1 ]", 4),
                ("array t [ x ]", 3), ("int t [ 1 ]", 2), ("proc f ( ) int { } ", 6),
                ("proc f ( ) array", 4), ("proc f ( ) {", 4), ("proc f ( int )", 4),
                ("proc f ( a )", 3), ("proc f ( int a , )", 6), ("proc f ( int a ; int b )", 5),
                ("proc f ( ) int { skip ; int x ;", 8), ("proc f ( ) int { array", 6),
                ("proc f ( ) int { return ;", 7), ("proc f ( ) int { return 1 , 2", 8),
                ("proc f ( ) int { return 1 ; skip", 9), ("main", 1), ("main {", 1),
                ("main x {", 1), ("main - 1", 1), ("main 0 ;", 2), ("main 0 { } ;", 4),
                ("main 0 { } return x", 6), ("main 0 { } return , x", 5),
                ("main 0 { } return x ,", 7), ("main 0 { } return x , ;", 7),
                ("main 0 { } return ; ;", 6), ("main 0 { } int x ;", 4),
                ("main 0 { } proc", 4), ("proc f ( ) int { return 1 ; } int x ;", 10),
                ("main 0 { int x ; }", 3), ("main 0 { ; }", 3), ("main 0 { skip }", 4),
                ("main 0 { x = 1 ; }", 4), ("main 0 { x : = 1 ; }", 4), ("main 0 { x }", 4),
                ("main 0 { x := ; }", 5), ("main 0 { x := 1 }", 6), ("main 0 { 1 := x ; }", 3),
                ("main 0 { if := x ; }", 4), ("main 0 { t [ 1 ] ~ flip ( 1 , 2 ) ; }", 7),
                ("main 0 { t [ 1 ] = 2 ; }", 7), ("main 0 { x ~ x ; }", 5),
                ("main 0 { x ~ flip 1", 6), ("main 0 { x ~ flip ( 1 )", 8),
                ("main 0 { x ~ flip ( 1 , 2 , 3 )", 10), ("main 0 { x ~ flip ( 1 : 2 )", 8),
                ("main 0 { x ~ pick ( )", 7), ("main 0 { x ~ pick ( 1 )", 8),
                ("main 0 { x ~ pick ( 1 , 2 )", 8), ("main 0 { x ~ pick ( 1 : 2 , )", 11),
                ("main 0 { x ~ pick ( 1 : 2 : 3 )", 10), ("main 0 { x := flip ( 1 , 2 ) ; }", 5),
                ("main 0 { observe ; }", 4), ("main 0 { observe a , b ; }", 5),
                ("main 0 { weigh a , b ; }", 4), ("main 0 { weigh ( a ) ; }", 6),
                ("main 0 { assert }", 4), ("main 0 { fail x ; }", 4), ("main 0 { if { } }", 4),
                ("main 0 { if a skip ; }", 5), ("main 0 { if a then { } }", 5),
                ("main 0 { if a { } else skip ; }", 8), ("main 0 { if a { } else if b { } }", 8),
                ("main 0 { else { } }", 3), ("main 0 { if a { } else { } else { } }", 10),
                ("main 0 { repeat x { } }", 4), ("main 0 { repeat ( 3 ) { } }", 4),
                ("main 0 { repeat 3 skip ; }", 5), ("main 0 { while a { } }", 5),
                ("main 0 { while a max x { } }", 6), ("main 0 { while max 3 { } }", 5),
                ("main 0 { while a max ( 1 , 2 ) { } }", 6), ("main 0 { for 1 from", 4),
                ("main 0 { for x in", 5), ("main 0 { for x from a to", 6),
                ("main 0 { for x from 1 until", 7), ("main 0 { for x from 1 to - 2", 8),
                ("main 0 { for x from 1 to 2 ; }", 9), ("main 0 { for t [ 1 ] from", 5),
                ("main 0 { call f to x ; }", 5), ("main 0 { call f ( ) ; }", 7),
                ("main 0 { call f ( a b )", 7), ("main 0 { call f ( a , )", 8),
                ("main 0 { call f ( ) to t [ 1 ] ; }", 9), ("main 0 { call f ( ) to 1", 8),
                ("main 0 { call g ( ) to b }", 9), ("main 0 { f ( 1 ) ; }", 4),
                ("main 0 { { } }", 3), ("main 0 { } } return ;", 4), ("main 0 ( ) return ;", 2),
                ("main 0 { return 1 ; }", 3), ("program", 0), ("x := 1 ;", 0)):
            self.refuses_at(InvalidSyntax, at, parse_program, text)
            self.same(place_of_fault("program", text.split()), at, text)

    def test_damaged_programs(self):
        numbers = Numbers(6)
        good = tokenize(WHOLE)
        for _ in range(1000):
            tokens = list(good)
            for _ in range(1 + numbers.below(2)):
                at = numbers.below(len(tokens))
                tokens[at:at + numbers.below(2)] = [numbers.one_of(EACH_TOKEN)] * numbers.below(2)
            at = place_of_fault("program", tokens)
            if at is None:
                parse_program(spell(tokens))
            else:
                self.refuses_at(InvalidSyntax, at, parse_program, spell(tokens))


class DepthTest(Case):

    def test_brackets(self):
        for place in PLACES:
            # The brackets around the place count, too.
            before = place[:place.find("@")]
            outside = sum([before.count(each) for each in "([{"])
            outside -= sum([before.count(each) for each in ")]}"])
            for front, back in (("(", ")"), ("min(1, ", ")"), ("t[", "]")):
                inner = front * 12 + "x" + back * 12
                many = 12 - outside
                few_calls(parse_program, place.replace("@", "(" * many + inner + ")" * many))
                many += 1
                self.refuses(TooDeep, parse_program,
                             place.replace("@", "(" * many + inner + ")" * many))

    def test_blocks(self):
        for head in ("if a {", "repeat 1 {", "while a max 1 {", "for x from 0 to 1 {",
                     "if a { } else {"):
            good = "main 0 {" + head * 23 + "}" * 24 + "return;"
            few_calls(parse_program, good)
            self.refuses(TooDeep, parse_program, "main 0 {" + head * 24 + "}" * 25 + "return;")
            good = "proc f() int {" + head * 23 + "}" * 23 + "return 1; } main 0 { } return;"
            few_calls(parse_program, good)
            bad = "proc f() int {" + head * 24 + "}" * 24 + "return 1; } main 0 { } return;"
            self.refuses(TooDeep, parse_program, bad)

    def test_heights(self):
        for place in PLACES:
            parse_program(place.replace("@", chain(24)))
            self.refuses(TooDeep, parse_program, place.replace("@", chain(25)))
            self.refuses(TooDeep, few_calls, parse_program, place.replace("@", chain(3000, "and")))
            self.refuses(TooDeep, parse_program, place.replace("@", f"-({chain(24)})"))
            parse_program(place.replace("@", f"-({chain(23)})"))

    def test_many_statements(self):
        program = parse_program("main 0 {" + "x := x + 1;" * 20000 + "} return;")
        self.assertEqual(len(program[3]), 20000)


class OrderTest(Case):

    def test_token_before_all(self):
        deep = "x :=" + "(" * 30 + "1" + ")" * 30 + ";"
        for text in ("main 0 {" + deep + "} return >", "> main 0", "main 0 { x = 1; } return 0a;",
                     "main 0 { x := " + chain(500) + "; } return; B", "( " * 40 + "?"):
            at = max([text.find(bad) for bad in (">", "0a", "B", "?")])
            self.refuses_at(InvalidToken, at, parse_program, text)

    def test_brackets_before_syntax(self):
        deep = "(" * 24 + "1" + ")" * 24
        for text in (f"main main 0 {{ x := {deep}; }} return;", f"main 0 {{ x := {deep} }} return;",
                     f"main 0 {{ x := {deep};", "(" * 25, "main 0 { } return x" + "[" * 25):
            self.refuses(TooDeep, parse_program, text)

    def test_syntax_before_height(self):
        for text in ("main 0 { x := @ } return;", "main 0 { x := @; } return",
                     "main 0 { x := @; } return; int", "main 0 { t[@] = 1; } return;",
                     "main 0 { if @ { } else x } return;", "main 0 { } return @, @",
                     "proc f() int { return @; } main { } return;", "main 0 { } return @ +;"):
            at = place_of_fault("program", tokenize(text.replace("@", chain(30))))
            # Each of the chains, which all stand before the fault, is longer by so many tokens.
            at += text.count("@") * 2 * (4000 - 30)
            text = text.replace("@", chain(4000))
            self.refuses_at(InvalidSyntax, at, few_calls, parse_program, text)

    def test_height_last(self):
        self.refuses(TooDeep, parse_program, f"main 0 {{ x := {chain(25)}; }} return;")
        self.refuses_at(InvalidSyntax, 55, parse_program, f"main 0 {{ x := {chain(25)};; }} return;")


if __name__ == "__main__":
    unittest.main()
