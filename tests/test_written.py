"""Points 7.6 and 7.7: the written form of diagrams."""

import re
import unittest

from odds.errors import InvalidDiagram
from odds.store import Store
from odds.written import read_diagram, write_diagram
from tests.diagrams import conjunction, diagram_of, parity, random_diagram, table_number, truth
from tests.support import Case, Numbers, few_calls, soon

MANY = 1200

# Texts that are no written form of a diagram, by what is wrong with them.
INVALID = {
    "no diagram at all": ("", "2", "10", "-1", "+1", "x", "true", "?:", ";", "; ", "0;1"),
    "signs that are missing or too many": (
        "0?1", "0:1", "0?1:", "0?:0", "?1:0", "01:0", "0??1:0", "0?1::0", "0?1:0:0", "0?1?0",
        "0:1?0", "0?1:0?1:0"),
    "an order of rows other than that of the walk": (
        "1?1:0; 2?1:0; 0?2:3", "2?1:0; 1?1:0; 0?2:3", "3?1:0; 2?1:0; 1?2:3; 0?4:1"),
    "a row that is not reached": (
        "5?1:0; 0?1:0", "5?1:0; 6?1:0; 0?3:0", "1?1:0; 0?2:0; 3?1:0", "1?1:0; 0?1:0"),
    "a row twice": ("1?1:0; 1?1:0; 0?2:3", "2?1:0; 2?1:0; 1?2:0; 0?4:3", "0?1:0; 0?1:0"),
    "low and high equal": ("0?1:1", "0?0:0", "1?1:0; 0?2:2", "2?1:0; 1?2:2; 0?3:0"),
    "a reference to a later row or the row itself": (
        "0?2:0", "0?0:2", "0?3:0; 1?1:0", "1?1:0; 0?3:0", "1?1:0; 0?4:0", "0?999999999:0"),
    "a level that does not rise": (
        "0?1:0; 0?2:0", "0?1:0; 1?2:0", "1?1:0; 1?0:2", "3?1:0; 2?2:0; 2?3:1", "1?1:0; 2?2:0"),
    "a zero in front": ("00", "01", "00?1:0", "01?1:0", "0?01:0", "0?1:00", "1?1:0; 0?02:0"),
    "ten digits": ("1000000000?1:0", "0?1000000000:0", "0?1:1000000000", "10000000000?1:0",
                   "0000000000?1:0"),
    "signs of numbers": ("-1?1:0", "+1?1:0", "0?-1:0", "0?1:-0", "0?1:+0"),
    "blanks": (" 0", "0 ", "1\n", " 0?1:0", "0?1:0 ", "0 ?1:0", "0? 1:0", "0?1 :0", "0?1: 0",
               "1?1:0;0?2:0", "1?1:0;  0?2:0", "1?1:0 ;0?2:0", "1?1:0 ; 0?2:0", "1?1:0;\n0?2:0"),
    "a text behind it": ("0?1:0;", "0?1:0; ", "1?1:0; 0?2:0; ", "0?1:0x", "0?1:0; x", "1x",
                         "0; 0", "1; 0?1:0", "0?1:0; 1", "0?1:0\n", "0?1:0,"),
    "other signs": ("0?1;0", "1?1:0, 0?2:0", "0!1:0", "1?1:0: 0?2:0", "0?a:0", "1_0?1:0"),
}


def is_written(text):
    """Whether a text is a written form, by the words of point 7.6."""
    if text in ("0", "1"):
        return True
    rows = []
    for row in text.split("; "):
        parts = re.fullmatch(r"(0|[1-9][0-9]{0,8})\?(0|[1-9][0-9]{0,8}):(0|[1-9][0-9]{0,8})", row)
        if not parts:
            return False
        level, high, low = [int(part) for part in parts.groups()]
        for part in (high, low):
            if part >= len(rows) + 2 or part > 1 and rows[part - 2][0] <= level:
                return False
        rows.append((level, high, low))
    if len(set(rows)) < len(rows) or any([high == low for _, high, low in rows]):
        return False
    left = []

    def walk(number):
        if number > 1 and number not in left:
            _, high, low = rows[number - 2]
            walk(low)
            walk(high)
            left.append(number)

    walk(len(rows) + 1)
    return left == list(range(2, len(rows) + 2))


class WriteTest(Case):

    def test_examples(self):
        s = Store()
        self.same(write_diagram(s, s.both(s.coin(1), s.coin(0))), "1?1:0; 0?2:0")
        self.same(write_diagram(s, 0), "0")
        self.same(write_diagram(s, 1), "1")
        self.same(write_diagram(s, s.coin(0)), "0?1:0")
        self.same(write_diagram(s, s.negate(s.coin(12))), "12?0:1")
        self.same(write_diagram(s, s.coin(999999999)), "999999999?1:0")

    def test_low_comes_first(self):
        s = Store()
        s.coin(1)
        a = s.choose(s.coin(0), s.coin(1), s.coin(2))
        self.same(write_diagram(s, a), "2?1:0; 1?1:0; 0?3:2")
        # A node that was left already is not walked again.
        b = s.node(0, s.node(1, s.coin(4), 1), s.node(1, s.coin(3), s.coin(4)))
        self.same(write_diagram(s, b), "4?1:0; 1?1:2; 3?1:0; 1?2:4; 0?5:3")
        # The second part of the first node is left before the second node.
        c = s.node(0, s.node(1, 0, s.coin(5)), s.node(1, s.coin(5), 0))
        self.same(write_diagram(s, c), "5?1:0; 1?2:0; 1?0:2; 0?4:3")

    def test_does_not_depend_on_the_store(self):
        numbers = Numbers(62)
        for _ in range(150):
            s, other = Store(), Store()
            a = random_diagram(numbers, s, 4)
            random_diagram(numbers, other, 4)
            text = write_diagram(s, a)
            self.assertTrue(is_written(text), text)
            b = diagram_of(other, truth(s, a, 4))
            self.same(write_diagram(other, b), text)
            self.same(len(text.split("; ")), max(1, len(s.nodes_below(a))))

    def test_many_levels(self):
        s = Store()
        rows = [f"{level}?{MANY - level}:0" for level in reversed(range(MANY))]
        rows[0] = f"{MANY - 1}?1:0"
        self.same(few_calls(write_diagram, s, conjunction(s, MANY)), "; ".join(rows))


class ReadTest(Case):

    def test_constants(self):
        s = Store()
        self.same(read_diagram(s, "0"), 0)
        self.same(read_diagram(s, "1"), 1)
        self.same(s.coin(0), 2)

    def test_what_is_written_is_read(self):
        s, other = Store(), Store()
        for number in range(256):
            a = diagram_of(s, table_number(number, 3))
            text = write_diagram(s, a)
            self.same(read_diagram(s, text), a)
            b = read_diagram(other, text)
            self.same(truth(other, b, 3), table_number(number, 3))
            self.same(s.same_as(a, other, b), True)

    def test_in_a_store_with_nodes(self):
        s = Store()
        a = s.choose(s.coin(7), s.coin(9), s.coin(8))
        self.same(read_diagram(s, "8?1:0; 9?1:0; 7?3:2"), a)
        self.same(read_diagram(s, "999999999?0:1"), s.negate(s.coin(999999999)))
        self.same(read_diagram(s, "0?0:1"), s.negate(s.coin(0)))

    def test_invalid(self):
        for reason, texts in INVALID.items():
            for text in texts:
                self.assertFalse(is_written(text), (reason, text))
                self.refuses(InvalidDiagram, lambda text: read_diagram(Store(), text), text)

    def test_the_store_after_an_error(self):
        s = Store()
        numbers = Numbers(63)
        known = {a: truth(s, a, 4) for a in [random_diagram(numbers, s, 4) for _ in range(20)]}
        for texts in INVALID.values():
            for text in texts:
                with self.assertRaises(InvalidDiagram):
                    read_diagram(s, text)
        for a, table in known.items():
            self.same(truth(s, a, 4), table)
            self.same(diagram_of(s, table), a)
            self.same(read_diagram(s, write_diagram(s, a)), a)
            self.same(truth(s, s.negate(a), 4), tuple([not bit for bit in table]))

    def test_changed_texts(self):
        """Texts in which one piece is changed, of which some are written forms again."""
        numbers = Numbers(64)
        spots = {True: 0, False: 0}
        for _ in range(4000):
            s = Store()
            text = write_diagram(s, random_diagram(numbers, s, 3))
            at = numbers.below(len(text) + 1)
            piece = numbers.one_of(("", "0", "1", "2", "3", "4", "5", "9", "?", ":", "; ", " "))
            changed = text[:at] + piece + text[at + numbers.below(2):]
            expected = is_written(changed)
            spots[expected] += 1
            if expected:
                self.same(write_diagram(s, read_diagram(s, changed)), changed)
            else:
                self.refuses(InvalidDiagram, lambda text: read_diagram(Store(), text), changed)
        self.assertTrue(min(spots.values()) > 300, spots)

    def test_exchanged_rows(self):
        numbers = Numbers(65)
        for _ in range(500):
            s = Store()
            rows = write_diagram(s, random_diagram(numbers, s, 4)).split("; ")
            first, second = numbers.below(len(rows)), numbers.below(len(rows))
            rows[first], rows[second] = rows[second], rows[first]
            text = "; ".join(rows)
            if is_written(text):
                self.same(write_diagram(s, read_diagram(s, text)), text)
            else:
                self.refuses(InvalidDiagram, lambda text: read_diagram(Store(), text), text)

    def test_many_levels(self):
        s, other = Store(), Store()
        for a in (parity(s, MANY), conjunction(s, MANY)):
            text = soon(few_calls, write_diagram, s, a)
            b = soon(few_calls, read_diagram, other, text)
            self.same(s.same_as(a, other, b), True)
            self.same(read_diagram(s, text), a)


if __name__ == "__main__":
    unittest.main()
