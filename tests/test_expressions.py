"""Points 2.11 to 2.13 for texts of one expression."""

import unittest

from odds.errors import InvalidSyntax, InvalidToken, TooDeep
from odds.expressions import parse_expression
from odds.tokens import bracket_depth, spell
from odds.trees import height
from tests.grammar import place_of_fault
from tests.support import LEVELS, SIGNS, Case, Numbers, chain, few_calls

A, B, C, X = ("var", "a"), ("var", "b"), ("var", "c"), ("var", "x")
COMPARISONS = ("eq", "ne", "lt", "le")
SOME_TOKENS = ("a b 0 12 true false - not ( ) ( ) [ ] t [ ] min max , + * div mod = != < <= and or "
               "if then else ( if : ; { } := ~ flip int").split()


def nested(brackets, inside="x", front="(", back=")"):
    return front * brackets + inside + back * brackets


class TreesTest(Case):

    def test_example(self):
        self.same(parse_expression("1 - (2) - x"), ("sub", ("sub", ("num", 1), ("num", 2)), X))

    def test_atoms(self):
        for text, tree in (
                ("0", ("num", 0)), ("17", ("num", 17)), ("999999999", ("num", 999999999)),
                ("true", ("true",)), ("false", ("false",)), ("x", X), ("x_1", ("var", "x_1")),
                ("t[0]", ("item", "t", ("num", 0))), ("t[t[x]]", ("item", "t", ("item", "t", X))),
                ("t[a or b]", ("item", "t", ("or", A, B))), ("(x)", X), ("((x))", X),
                ("min(a, b)", ("min", A, B)), ("max(a, b)", ("max", A, B)),
                ("min(a or b, max(b, a))", ("min", ("or", A, B), ("max", B, A))),
                ("(if a then b else c)", ("cond", A, B, C)),
                ("((if a then b else c))", ("cond", A, B, C)),
                ("(if a or b then b = c else not c)",
                 ("cond", ("or", A, B), ("eq", B, C), ("not", C))),
                ("(if (if a then b else c) then (if b then c else a) else (if c then a else b))",
                 ("cond", ("cond", A, B, C), ("cond", B, C, A), ("cond", C, A, B)))):
            self.same(parse_expression(text), tree, text)

    def test_prefixes(self):
        for text, tree in (
                ("-a", ("neg", A)), ("- 5", ("neg", ("num", 5))), ("not a", ("not", A)),
                ("-a * b", ("mul", ("neg", A), B)), ("a * -b", ("mul", A, ("neg", B))),
                ("not a = b", ("eq", ("not", A), B)), ("a = not b", ("eq", A, ("not", B))),
                ("-(-a)", ("neg", ("neg", A))), ("not (not a)", ("not", ("not", A))),
                ("not (-a)", ("not", ("neg", A))), ("a - -b", ("sub", A, ("neg", B))),
                ("-a - b", ("sub", ("neg", A), B)), ("-t[a]", ("neg", ("item", "t", A))),
                ("-min(a, b)", ("neg", ("min", A, B))), ("-(a + b)", ("neg", ("add", A, B))),
                ("not (a and b)", ("not", ("and", A, B))), ("not a and b", ("and", ("not", A), B)),
                ("-a div b mod -c", ("mod", ("div", ("neg", A), B), ("neg", C))),
                ("-(if a then b else c)", ("neg", ("cond", A, B, C))), ("not true", ("not", ("true",)))):
            self.same(parse_expression(text), tree, text)

    def test_each_operator(self):
        for tag, sign in SIGNS.items():
            self.same(parse_expression(f"a {sign} b"), (tag, A, B))
        self.same(parse_expression("a<=b"), ("le", A, B))
        self.same(parse_expression("a+b"), ("add", A, B))

    def test_each_pair_of_operators(self):
        for first, left in SIGNS.items():
            for second, right in SIGNS.items():
                text = f"a {left} b {right} c"
                if first in COMPARISONS and second in COMPARISONS:
                    self.refuses_at(InvalidSyntax, 3, parse_expression, text)
                elif LEVELS[first] >= LEVELS[second]:
                    self.same(parse_expression(text), (second, (first, A, B), C), text)
                else:
                    self.same(parse_expression(text), (first, A, (second, B, C)), text)
                self.same(parse_expression(f"a {left} (b {right} c)"), (first, A, (second, B, C)))
                self.same(parse_expression(f"(a {left} b) {right} c"), (second, (first, A, B), C))

    def test_long_mixtures(self):
        self.same(parse_expression("a or b and c = x + a * -b"), (
            "or", A, ("and", B, ("eq", C, ("add", X, ("mul", A, ("neg", B)))))))
        self.same(parse_expression("-a * b + c < x and a or b"), (
            "or", ("and", ("lt", ("add", ("mul", ("neg", A), B), C), X), A), B))
        self.same(parse_expression("a = b and b = c and c = a"), (
            "and", ("and", ("eq", A, B), ("eq", B, C)), ("eq", C, A)))
        self.same(parse_expression("a - b * c - a div b mod c"), (
            "sub", ("sub", A, ("mul", B, C)), ("mod", ("div", A, B), C)))
        self.same(parse_expression("a or b or c and x and a"), (
            "or", ("or", A, B), ("and", ("and", C, X), A)))
        self.same(parse_expression("(a = b) = (b = c)"), ("eq", ("eq", A, B), ("eq", B, C)))

    def test_blanks_and_comments(self):
        self.same(parse_expression("  a#first\n+ # second ) (\n\nb # third"), ("add", A, B))


class FaultsTest(Case):

    def test_places(self):
        for text, at in (
                ("", 0), (")", 0), ("+", 0), ("a b", 1), ("a )", 1), ("a +", 2),
                ("a + + b", 2), ("a + * b", 2), ("- - a", 1), ("not not a", 1), ("- not a", 1),
                ("not - a", 1), ("-", 1), ("not", 1), ("(", 1), ("( )", 1), ("( a", 2), ("( a ]", 2),
                ("( a , b )", 2), ("t [", 2), ("t [ ]", 2), ("t [ a", 3), ("t [ a )", 3),
                ("t [ a ] [ b ]", 4), ("( t ) [ a ]", 3), ("1 [ a ]", 1), ("f ( a )", 1),
                ("min a", 1), ("min ( a )", 3), ("min ( a , b , c )", 5), ("min ( a , )", 4),
                ("min", 1), ("max ( a , b", 5), ("max ( a b )", 3), ("if a then b else c", 0),
                ("( if", 2), ("( if then b", 2), ("( if a b", 3), ("( if a then", 4),
                ("( if a then b )", 5), ("( if a then b else )", 6), ("( if a then b else c", 7),
                ("( if a then b else c +", 8), ("( if a then b else c ; )", 7),
                ("a = b = c", 3), ("a < b <= c", 3), ("a = b != c", 3), ("a and b = c < b", 5),
                ("a + b = c * a = b", 7), ("( a = b = c )", 4), ("a := b", 1), ("a ; b", 1),
                ("true false", 1), ("true [ a ]", 1), ("then", 0), ("int", 0), ("main", 0),
                ("a or or b", 2), ("a and", 2), ("or a", 0), ("a div mod b", 2), ("2 x", 1),
                ("a mod ( b", 4), ("( ( a )", 4), ("( a ) )", 3), ("[ a ]", 0), ("{ a }", 0),
                ("a ~ b", 1), ("a : b", 1), ("a , b", 1), ("( if a then b else c ) d", 8),
                ("a not b", 1), ("a ( b )", 1)):
            self.refuses_at(InvalidSyntax, at, parse_expression, text)
            self.same(place_of_fault("expression", text.split()), at)
        self.refuses_at(InvalidSyntax, 0, parse_expression, "# a")
        self.refuses_at(InvalidSyntax, 2, parse_expression, "a + # b")

    def test_every_beginning(self):
        tokens = ("( if t [ a ] = - 1 or not b then min ( a , 2 * 3 ) else max ( b , ( c ) div 4 ) )"
                  " - 5 mod 6").split()
        parse_expression(spell(tokens))
        for at in range(len(tokens)):
            beginning = tokens[:at]
            if place_of_fault("expression", beginning) is None:
                parse_expression(spell(beginning))
            else:
                self.refuses_at(InvalidSyntax, at, parse_expression, spell(beginning))

    def test_random_tokens(self):
        numbers = Numbers(3)
        accepted = 0
        for _ in range(6000):
            tokens = [numbers.one_of(SOME_TOKENS) for _ in range(1 + numbers.below(7))]
            at = place_of_fault("expression", tokens)
            if at is None:
                accepted += 1
                parse_expression(spell(tokens))
            else:
                self.refuses_at(InvalidSyntax, at, parse_expression, spell(tokens))
        self.assertGreater(accepted, 100)

    def test_damaged_expressions(self):
        numbers = Numbers(4)
        good = "( if t [ a + 1 ] < 3 then - a else min ( b , 2 ) ) * 4 = c and not ( a or b )".split()
        for _ in range(2000):
            tokens = list(good)
            for _ in range(1 + numbers.below(2)):
                at = numbers.below(len(tokens))
                tokens[at:at + numbers.below(2)] = [numbers.one_of(SOME_TOKENS)] * numbers.below(3)
            at = place_of_fault("expression", tokens)
            if at is None:
                parse_expression(spell(tokens))
            else:
                self.refuses_at(InvalidSyntax, at, parse_expression, spell(tokens))


class DepthTest(Case):

    def test_brackets(self):
        self.same(parse_expression(nested(24)), X)
        self.same(few_calls(parse_expression, nested(24)), X)
        for brackets in (25, 26, 1000, 100000):
            self.refuses(TooDeep, parse_expression, nested(brackets))

    def test_brackets_of_all_kinds(self):
        self.refuses(TooDeep, parse_expression, nested(25, front="t[", back="]"))
        self.same(parse_expression(nested(12, nested(12, "1", "t[", "]"))),
                  parse_expression(nested(12, "1", "t[", "]")))
        self.refuses(TooDeep, parse_expression, nested(12, nested(13, "1", "t[", "]")))
        self.same(parse_expression(nested(24) + " + " + nested(24)), ("add", X, X))

    def test_brackets_without_partners(self):
        self.refuses(TooDeep, parse_expression, "(" * 25)
        self.refuses(TooDeep, parse_expression, "[{(" * 8 + "{")
        self.refuses_at(InvalidSyntax, 24, parse_expression, "(" * 24)
        self.refuses_at(InvalidSyntax, 0, parse_expression, "{" * 24)
        self.refuses_at(InvalidSyntax, 0, parse_expression, ")" * 9 + "(" * 33)
        self.refuses(TooDeep, parse_expression, ")" * 9 + "(" * 34)
        self.refuses(TooDeep, parse_expression, "a b " + "(" * 25)

    def test_heights(self):
        for sign in ("+", "-", "*", "div", "mod", "and", "or"):
            self.same(height(parse_expression(chain(24, sign))), 24)
            self.refuses(TooDeep, parse_expression, chain(25, sign))
        for front, back in (("-(", ")"), ("not (", ")"), ("t[", "]"), ("1 + (", ")"),
                            ("min(1, ", ")"), ("max(", ", 1)"), ("(if x then 1 else ", ")"),
                            ("(if ", " then 1 else 2)"), ("1 = (", ")"), ("(", ") <= 1")):
            self.same(height(parse_expression(nested(23, "x", front, back))), 24)
            self.same(height(few_calls(parse_expression, nested(23, "x", front, back))), 24)
            self.refuses(TooDeep, parse_expression, nested(24, "x", front, back))

    def test_heights_inside(self):
        for text in ("-({})", "min(1, {})", "max({}, 1)", "t[{}]", "({}) = 1", "1 = {}", "1 - ({})",
                     "(if {} then 1 else 2)", "(if 1 then {} else 2)", "(if 1 then 2 else {})",
                     "1 and ({})", "not ({})"):
            self.same(height(parse_expression(text.format(chain(23)))), 24)
            self.refuses(TooDeep, parse_expression, text.format(chain(24)))
            self.refuses(TooDeep, parse_expression, text.format(chain(25)))
        text = "({}) * ({}) - ({})"
        self.same(height(parse_expression(text.format(chain(9), chain(22), chain(23)))), 24)
        self.refuses(TooDeep, parse_expression, text.format(chain(9), chain(23), chain(9)))
        self.refuses(TooDeep, parse_expression, text.format(chain(9), chain(9), chain(24)))

    def test_mixed_levels_do_not_nest(self):
        text = chain(4000, "or", "a and b = c + a * -b")
        self.refuses(TooDeep, few_calls, parse_expression, text)

    def test_long_chains(self):
        for sign in ("+", "-", "*", "div", "mod", "and", "or"):
            for many in (25, 3000):
                self.refuses(TooDeep, few_calls, parse_expression, chain(many, sign))
                self.refuses(TooDeep, parse_expression, f"min(1, t[{chain(many, sign)}])")
        self.refuses(TooDeep, parse_expression, chain(60000))

    def test_long_chains_of_comparisons(self):
        for sign in ("=", "!=", "<", "<="):
            self.refuses_at(InvalidSyntax, 3, parse_expression, chain(3000, sign))


class OrderTest(Case):

    def test_token_before_all(self):
        for text in (nested(25) + " ?", "a b ?", ") ) ?", chain(4000) + " ?", "(" * 30 + "0a",
                     "? " + nested(25)):
            at = max(text.find("?"), text.find("0a"))
            self.refuses_at(InvalidToken, at, parse_expression, text)

    def test_brackets_before_syntax(self):
        for text in ("a b " + nested(25), nested(25) + " )", "+ " + nested(25), "(" * 25 + chain(50)):
            self.refuses(TooDeep, parse_expression, text)

    def test_syntax_before_height(self):
        many = 5000
        for text, at in ((chain(25) + " b", 49), (chain(25) + " +", 50), (chain(many) + " )", 9999),
                         (chain(many) + " + + 1", 10000), (chain(many) + " -", 10000),
                         ("(" + chain(many), 10000), (f"min({chain(many)}, {chain(many)} 1", 20001),
                         (f"t[{chain(many)}] + ", 10003), (f"({chain(many)} = 1 = 2)", 10002),
                         (nested(24, "x", "-(", ")") + " x", 73)):
            self.refuses_at(InvalidSyntax, at, few_calls, parse_expression, text)

    def test_depth_of_brackets_counts_in_the_whole_text(self):
        self.refuses_at(InvalidSyntax, 1, parse_expression, "a b " + nested(24))
        self.refuses(TooDeep, parse_expression, "a b " + nested(25))
        self.same(bracket_depth(["("] * 25), 25)


if __name__ == "__main__":
    unittest.main()
