"""Points 2.1 to 2.4: tokens."""

import unittest

from odds.errors import InvalidToken
from odds.tokens import bracket_depth, is_name, is_numeral, spell, tokenize
from tests.support import EXAMPLE, Case, Numbers

SIGNS = ("(", ")", "[", "]", "{", "}", ",", ";", ":", ":=", "~", "+", "-", "*", "=", "!=", "<",
         "<=")
KEYWORDS = (
    "int bool array proc main return skip flip uniform pick observe weigh assert fail if then else "
    "repeat while max for from to call and or not true false min div mod").split()
NAMES = ("a", "z", "x1", "x_", "a__b", "ints", "in", "integer", "mains", "or_", "and1", "i", "e",
         "do", "print", "none", "elif", "is", "a0123456789", "b" * 300, "divmod", "minimum", "pow",
         "true1", "xor", "return_")
NUMERALS = ("0", "1", "7", "10", "100", "999999999", "123456789", "100000000")
BAD_RUNS = ("00", "01", "007", "0a", "1a", "9_", "0_", "_", "__", "_a", "_1", "1000000000",
            "0000000000", "1234567890", "12345678901234567890", "1_000", "12ab", "0x1", "1e3",
            "000000001", "9" * 5000)
LETTERS = "abcdefghijklmnopqrstuvwxyz"
# The characters that begin a token, a comment or a blank.
BEGINNERS = LETTERS + "0123456789" + "()[]{},;:~+-*=<#" + " \n"


class TokenizeTest(Case):

    def test_example(self):
        self.same(self.pure(tokenize, "x:=(a<=1) # note"),
                  ["x", ":=", "(", "a", "<=", "1", ")"])

    def test_empty(self):
        for text in ("", " ", "\n", "  \n \n\n ", "#", "# note", "#\n", " # a\n#b", "##", "#\n#\n"):
            self.same(tokenize(text), [])

    def test_each_token(self):
        for token in (*SIGNS, *KEYWORDS, *NAMES, *NUMERALS):
            for text in (token, " " + token, token + "\n", "\n\n " + token + "  ",
                         token + "# note", "#note\n" + token, token + "#"):
                self.same(tokenize(text), [token])

    def test_blanks_separate(self):
        self.same(tokenize("a b"), ["a", "b"])
        self.same(tokenize("ab"), ["ab"])
        self.same(tokenize("a\nb"), ["a", "b"])
        self.same(tokenize("1 2"), ["1", "2"])
        self.same(tokenize(": ="), [":", "="])
        self.same(tokenize("< ="), ["<", "="])
        self.same(tokenize(":\n="), [":", "="])
        self.same(tokenize("i f"), ["i", "f"])

    def test_comments_separate(self):
        self.same(tokenize("a#b\nc"), ["a", "c"])
        self.same(tokenize("a#\nb"), ["a", "b"])
        self.same(tokenize(":#\n="), [":", "="])
        self.same(tokenize("1#2\n3"), ["1", "3"])
        self.same(tokenize("a # b # c\nd#e\n\nf"), ["a", "d", "f"])

    def test_comments_may_say_anything(self):
        self.same(tokenize("a # \"'?!@$^&|\\/.>`ABC _ 007 1000000000\n+ b"), ["a", "+", "b"])
        self.same(tokenize("# 0a"), [])
        self.same(tokenize("x # 0a > B"), ["x"])

    def test_longest_signs(self):
        self.same(tokenize("::="), [":", ":="])
        self.same(tokenize(":=="), [":=", "="])
        self.same(tokenize("<=="), ["<=", "="])
        self.same(tokenize("<<="), ["<", "<="])
        self.same(tokenize("!=="), ["!=", "="])
        self.same(tokenize("=!="), ["=", "!="])
        self.same(tokenize("=<"), ["=", "<"])
        self.same(tokenize("--"), ["-", "-"])
        self.same(tokenize("~-1"), ["~", "-", "1"])

    def test_all_pairs_of_signs(self):
        for first in SIGNS:
            for second in SIGNS:
                self.same(tokenize(first + " " + second), [first, second])
                if first + second not in (":=", "<=") and first + second[:1] not in SIGNS:
                    self.same(tokenize(first + second), [first, second])

    def test_words_beside_signs(self):
        for sign in SIGNS:
            for word in ("x", "if", "0", "12"):
                self.same(tokenize(word + sign + word), [word, sign, word])

    def test_longest_runs(self):
        self.same(tokenize("ifx if x"), ["ifx", "if", "x"])
        self.same(tokenize("a1b2_3"), ["a1b2_3"])
        self.same(tokenize("int1"), ["int1"])
        self.same(tokenize("x0"), ["x0"])
        self.same(tokenize("x00000000000"), ["x00000000000"])

    def test_examples_of_errors(self):
        self.refuses_at(InvalidToken, 5, tokenize, "x := 0a")
        self.refuses_at(InvalidToken, 2, tokenize, "a > b")

    def test_bad_runs(self):
        for run in BAD_RUNS:
            self.refuses_at(InvalidToken, 0, tokenize, run)
            self.refuses_at(InvalidToken, 3, tokenize, "a :" + run + " b")
            self.refuses_at(InvalidToken, 6, tokenize, "#> ?\n " + run + ";")
            self.refuses_at(InvalidToken, 1, tokenize, "+" + run + "+")

    def test_every_character(self):
        for code in (*range(128), 160, 170, 178, 181, 223, 233, 0x3b1, 0x661, 0x2028, 0xff11,
                     0x1d7d8, 0xff41):
            letter = chr(code)
            if letter == "_" or letter not in BEGINNERS:
                self.refuses_at(InvalidToken, 0, tokenize, letter)
                self.refuses_at(InvalidToken, 4, tokenize, "a +\n" + letter)
                self.refuses_at(InvalidToken, 1, tokenize, ")" + letter + "a")
            else:
                self.same(tokenize(letter), [] if letter in "# \n" else [letter])

    def test_bad_characters_behind_words(self):
        self.refuses_at(InvalidToken, 1, tokenize, "aB")
        self.refuses_at(InvalidToken, 2, tokenize, "12A")
        self.refuses_at(InvalidToken, 1, tokenize, "a.b")
        self.refuses_at(InvalidToken, 1, tokenize, "a\tb")
        self.refuses_at(InvalidToken, 1, tokenize, "a\rb")

    def test_lonely_parts_of_signs(self):
        self.refuses_at(InvalidToken, 0, tokenize, "!")
        self.refuses_at(InvalidToken, 2, tokenize, "a ! = b")
        self.refuses_at(InvalidToken, 1, tokenize, "<>")
        self.refuses_at(InvalidToken, 2, tokenize, "<=>")
        self.refuses_at(InvalidToken, 1, tokenize, "=>")
        self.refuses_at(InvalidToken, 2, tokenize, "!=!")

    def test_first_fault_counts(self):
        self.refuses_at(InvalidToken, 2, tokenize, "a 0b > c")
        self.refuses_at(InvalidToken, 2, tokenize, "a > 0b c")
        self.refuses_at(InvalidToken, 7, tokenize, "a # >\n\n0b")

    def test_numerals_of_nine_and_ten_digits(self):
        self.same(tokenize("999999999"), ["999999999"])
        self.refuses_at(InvalidToken, 0, tokenize, "1000000000")
        self.refuses_at(InvalidToken, 2, tokenize, "- 1000000000")

    def test_long_texts(self):
        self.assertEqual(tokenize("x := 10 ; # note\n" * 20000), ["x", ":=", "10", ";"] * 20000)
        self.assertEqual(tokenize("b" * 100000), ["b" * 100000])
        self.assertEqual(tokenize("#" + "b>" * 100000), [])
        self.refuses_at(InvalidToken, 100000, tokenize, "+ " * 50000 + "?")

    def test_answers_are_new(self):
        self.pure(tokenize, EXAMPLE)


class SpellTest(Case):

    def test_spell(self):
        self.same(self.pure(spell, []), "")
        self.same(spell(["x"]), "x")
        self.same(self.pure(spell, ["x", ":=", "(", "1"]), "x := ( 1")
        self.same(spell([":", "=", ":="]), ": = :=")

    def test_split_again(self):
        tokens = (*SIGNS, *KEYWORDS, *NAMES, *NUMERALS)
        self.same(tokenize(spell(list(tokens))), list(tokens))
        numbers = Numbers(5)
        for length in range(200):
            some = [numbers.one_of(tokens) for _ in range(length)]
            self.same(tokenize(spell(some)), some)
            self.same(spell(some).split(), some)


class BracketDepthTest(Case):

    def test_depths(self):
        for text, depth in (
                ("", 0), ("x", 0), ("x + 1 ;", 0), ("(", 1), ("[", 1), ("{", 1), (")", 0), ("]", 0),
                ("}", 0), ("( )", 1), ("( ) (", 1), ("( (", 2), ("( [ {", 3), ("{ [ ( ) ] }", 3),
                (") (", 0), (") ( (", 1), ("} ] ) ( [ {", 0), ("( ] {", 1), ("( [ ) }", 2),
                ("( ) ) ) ( ( ( (", 2), ("( ( ) ( ( ) ) )", 3), ("( x [ y ] { z", 2),
                ("< <= : := ~ -", 0)):
            self.same(self.pure(bracket_depth, text.split()), depth, text)

    def test_long(self):
        self.same(bracket_depth(["("] * 3000), 3000)
        self.same(bracket_depth([")"] * 3000 + ["["] * 3000), 0)
        self.same(bracket_depth(["{"] * 2000 + ["]"] * 2000 + ["("] * 2001), 2001)


class WordsTest(Case):

    def test_names(self):
        for token in NAMES:
            self.same(is_name(token), True)
            self.same(is_numeral(token), False)

    def test_numerals(self):
        for token in NUMERALS:
            self.same(is_numeral(token), True)
            self.same(is_name(token), False)

    def test_others(self):
        for token in (*SIGNS, *KEYWORDS):
            self.same(is_name(token), False)
            self.same(is_numeral(token), False)


if __name__ == "__main__":
    unittest.main()
