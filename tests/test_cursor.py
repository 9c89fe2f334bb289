"""Point 2.5: cursors."""

import unittest

from odds.cursor import Cursor
from odds.errors import InvalidSyntax
from tests.support import Case

TOKENS = ["x", ":=", "17", "if", ";"]


def cursor_at(tokens, at):
    cursor = Cursor(tokens)
    for _ in range(at):
        cursor.take()
    return cursor


class CursorTest(Case):

    def unchanged(self, cursor, taken, token):
        """The cursor stands behind so many tokens, before this one."""
        self.same(cursor.taken, taken)
        self.same(cursor.peek(), token)

    def test_peek_changes_nothing(self):
        cursor = Cursor(TOKENS)
        for _ in range(3):
            self.unchanged(cursor, 0, "x")

    def test_take(self):
        cursor = Cursor(TOKENS)
        for at, token in enumerate(TOKENS):
            self.unchanged(cursor, at, token)
            self.same(cursor.take(), token)
            self.same(cursor.taken, at + 1)
        self.unchanged(cursor, 5, "")

    def test_take_at_the_end(self):
        for tokens in ([], ["x"], TOKENS):
            cursor = cursor_at(tokens, len(tokens))
            for _ in range(2):
                self.refuses_at(InvalidSyntax, len(tokens), cursor.take)
                self.unchanged(cursor, len(tokens), "")

    def test_skip_if(self):
        cursor = Cursor(TOKENS)
        self.same(cursor.skip_if(":="), False)
        self.unchanged(cursor, 0, "x")
        self.same(cursor.skip_if("x"), True)
        self.unchanged(cursor, 1, ":=")
        self.same(cursor.skip_if(":"), False)
        self.same(cursor.skip_if("x"), False)
        self.unchanged(cursor, 1, ":=")
        cursor = cursor_at(TOKENS, 5)
        self.same(cursor.skip_if(";"), False)
        self.unchanged(cursor, 5, "")

    def test_expect(self):
        cursor = Cursor(TOKENS)
        self.assertIsNone(cursor.expect("x"))
        self.unchanged(cursor, 1, ":=")
        self.refuses_at(InvalidSyntax, 1, cursor.expect, "=")
        self.refuses_at(InvalidSyntax, 1, cursor.expect, "x")
        self.unchanged(cursor, 1, ":=")
        self.assertIsNone(cursor.expect(":="))
        self.unchanged(cursor, 2, "17")
        cursor = cursor_at(TOKENS, 5)
        self.refuses_at(InvalidSyntax, 5, cursor.expect, ";")
        self.unchanged(cursor, 5, "")

    def test_name(self):
        cursor = Cursor(["x", "a_1", "if"])
        self.same(cursor.name(), "x")
        self.same(cursor.name(), "a_1")
        self.unchanged(cursor, 2, "if")

    def test_no_name(self):
        for token in ("if", "max", "true", "0", "17", "(", ":=", "int"):
            cursor = cursor_at(["x", token], 1)
            self.refuses_at(InvalidSyntax, 1, cursor.name)
            self.unchanged(cursor, 1, token)
        cursor = Cursor([])
        self.refuses_at(InvalidSyntax, 0, cursor.name)
        self.unchanged(cursor, 0, "")

    def test_numeral(self):
        cursor = Cursor(["0", "17", "999999999", "x"])
        for at, number in enumerate((0, 17, 999999999)):
            self.same(cursor.numeral(), number)
            self.same(cursor.taken, at + 1)

    def test_no_numeral(self):
        for token in ("x", "if", "-", "true", "a1", ")"):
            cursor = cursor_at(["1", token], 1)
            self.refuses_at(InvalidSyntax, 1, cursor.numeral)
            self.unchanged(cursor, 1, token)
        cursor = cursor_at(["1"], 1)
        self.refuses_at(InvalidSyntax, 1, cursor.numeral)
        self.unchanged(cursor, 1, "")

    def test_goes_on_behind_a_failure(self):
        cursor = Cursor(TOKENS)
        self.refuses_at(InvalidSyntax, 0, cursor.numeral)
        self.same(cursor.name(), "x")
        self.refuses_at(InvalidSyntax, 1, cursor.name)
        self.assertIsNone(cursor.expect(":="))
        self.refuses_at(InvalidSyntax, 2, cursor.name)
        self.same(cursor.numeral(), 17)
        self.refuses_at(InvalidSyntax, 3, cursor.name)
        self.same(cursor.take(), "if")
        self.same(cursor.skip_if(";"), True)
        self.unchanged(cursor, 5, "")

    def test_keeps_a_copy(self):
        tokens = list(TOKENS)
        cursor = Cursor(tokens)
        tokens[0] = "y"
        tokens.pop()
        self.unchanged(cursor, 0, "x")
        tokens.clear()
        self.same([cursor.take() for _ in range(5)], TOKENS)
        tokens.append("z")
        self.unchanged(cursor, 5, "")

    def test_leaves_the_list_alone(self):
        tokens = list(TOKENS)
        cursor_at(tokens, 5)
        self.same(tokens, TOKENS)

    def test_two_cursors_over_one_list(self):
        tokens = list(TOKENS)
        first, second = Cursor(tokens), Cursor(tokens)
        first.take()
        self.unchanged(first, 1, ":=")
        self.unchanged(second, 0, "x")

    def test_methods_stand_in_the_class(self):
        for name in ("peek", "take", "skip_if", "expect", "name", "numeral"):
            self.assertTrue(callable(vars(Cursor)[name]))
        self.assertIsInstance(vars(Cursor)["taken"], property)


if __name__ == "__main__":
    unittest.main()
