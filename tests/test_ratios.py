"""Points 1.3 to 1.6: ratios."""

import unittest
from fractions import Fraction

from odds.errors import InvalidRatio, ZeroDivisor
from odds.ratios import (
    compare, is_chance, minus, over, plus, plus_all, ratio, read_ratio, rest, times, times_all,
    write_ratio,
)
from tests.support import Case

HUGE = 3 ** 12000


def pair(fraction):
    return (fraction.numerator, fraction.denominator)


SOME = [Fraction(top, bottom) for top in range(-7, 8) for bottom in (1, 2, 3, 4, 6)]


class RatioTest(Case):

    def test_lowest_terms(self):
        self.same(ratio(6, -4), (-3, 2))
        for top in range(-13, 14):
            for bottom in [n for n in range(-13, 14) if n]:
                self.same(ratio(top, bottom), pair(Fraction(top, bottom)))

    def test_zero_has_one_form(self):
        for bottom in (1, -1, 2, -5, HUGE, -HUGE):
            self.same(ratio(0, bottom), (0, 1))

    def test_zero_bottom(self):
        for top in (0, 1, -1, HUGE):
            self.refuses(ZeroDivisor, ratio, top, 0)

    def test_huge(self):
        self.same(ratio(6 * HUGE, -4 * HUGE), (-3, 2))
        self.same(ratio(HUGE, 1), (HUGE, 1))
        self.same(ratio(2 * HUGE, 3 * HUGE * 2 ** 5000), (1, 3 * 2 ** 4999))


class ArithmeticTest(Case):

    def test_examples(self):
        self.same(plus((1, 2), (-1, 2)), (0, 1))
        self.same(minus((1, 2), (1, 3)), (1, 6))
        self.same(times((2, 3), (-3, 4)), (-1, 2))
        self.same(over((1, 2), (-1, 4)), (-2, 1))

    def test_all_small_pairs(self):
        for a in SOME:
            for b in SOME:
                self.same(plus(pair(a), pair(b)), pair(a + b))
                self.same(minus(pair(a), pair(b)), pair(a - b))
                self.same(times(pair(a), pair(b)), pair(a * b))
                if b:
                    self.same(over(pair(a), pair(b)), pair(a / b))

    def test_division_by_zero(self):
        for a in ((0, 1), (1, 1), (-5, 3)):
            self.refuses(ZeroDivisor, over, a, (0, 1))

    def test_compare(self):
        self.same(compare((1, 3), (1, 2)), -1)
        self.same(compare((1, 2), (1, 2)), 0)
        self.same(compare((-1, 3), (-1, 2)), 1)
        for a in SOME:
            for b in SOME:
                self.same(compare(pair(a), pair(b)), (a > b) - (a < b))

    def test_huge(self):
        a, b = Fraction(HUGE, 2 ** 9000), Fraction(5, HUGE)
        self.same(plus(pair(a), pair(b)), pair(a + b))
        self.same(minus(pair(a), pair(b)), pair(a - b))
        self.same(times(pair(a), pair(b)), pair(a * b))
        self.same(over(pair(a), pair(b)), pair(a / b))
        self.same(compare((HUGE, HUGE + 1), (HUGE + 1, HUGE + 2)), -1)
        self.same(compare((HUGE + 1, HUGE + 2), (HUGE, HUGE + 1)), 1)

    def test_sums_and_products(self):
        self.same(self.pure(plus_all, []), (0, 1))
        self.same(self.pure(times_all, []), (1, 1))
        self.same(self.pure(plus_all, [(1, 2)]), (1, 2))
        self.same(self.pure(times_all, [(-1, 2)]), (-1, 2))
        self.same(self.pure(plus_all, [(1, 2), (1, 3), (-5, 6)]), (0, 1))
        self.same(self.pure(plus_all, [(1, 6), (1, 6), (1, 6)]), (1, 2))
        self.same(self.pure(times_all, [(1, 2), (-2, 3), (6, 1)]), (-2, 1))
        self.same(self.pure(times_all, [(1, 2), (0, 1), (6, 1)]), (0, 1))
        total, product = Fraction(0), Fraction(1)
        for each in SOME:
            total += each
            product *= each or 1
        self.same(plus_all([pair(each) for each in SOME]), pair(total))
        self.same(times_all([pair(each or Fraction(1)) for each in SOME]), pair(product))

    def test_rest(self):
        for a in SOME:
            self.same(rest(pair(a)), pair(1 - a))
        self.same(rest((1, HUGE)), (HUGE - 1, HUGE))

    def test_is_chance(self):
        for a in SOME:
            self.same(is_chance(pair(a)), 0 <= a <= 1)
        for r, told in (((0, 1), True), ((1, 1), True), ((1, HUGE), True), ((-1, HUGE), False),
                        ((HUGE + 1, HUGE), False), ((HUGE - 1, HUGE), True), ((2, 1), False)):
            self.same(is_chance(r), told)


class WrittenFormTest(Case):

    def test_write(self):
        for r, text in (((0, 1), "0"), ((1, 1), "1"), ((-3, 1), "-3"), ((-3, 2), "-3/2"),
                        ((1, 10), "1/10"), ((22, 7), "22/7")):
            self.same(write_ratio(r), text)
            self.same(read_ratio(text), r)

    def test_read_what_is_written(self):
        for a in SOME:
            self.same(read_ratio(write_ratio(pair(a))), pair(a))

    def test_long(self):
        digits = "1" + "0" * 5000
        self.assertTrue(write_ratio((1, 10 ** 5000)) == "1/" + digits)
        self.assertTrue(write_ratio((-10 ** 5000, 7)) == "-" + digits + "/7")
        self.assertTrue(write_ratio((-10 ** 5000, 1)) == "-" + digits)
        self.assertTrue(read_ratio("-" + digits + "/7") == (-10 ** 5000, 7))
        self.assertTrue(read_ratio("3/" + digits) == (3, 10 ** 5000))
        with self.assertRaises(InvalidRatio):
            read_ratio("2/" + digits)

    def test_refused(self):
        for text in ("2/4", "1/1", "0/1", "5/1", "-5/1", "1/-2", "-1/-2", "-0", "1/", "/", "/2",
                     "-/2", "", "-", "0/2", "-0/2", "1/0", "0/0", "-1/0", "6/4", "-6/4", "+1",
                     "+1/2", "1/+2", "01", "01/2", "1/02", "1/2/3", "1//2", "1/2/", "/1/2", " 1",
                     "1 ", "1 /2", "1/ 2", "1/2 ", "1/2\n", "1.5", "1/2.0", "a", "a/b", "1/b",
                     "a/2", "--1/2", "1/00", "1_0/3", "\u0661", "1/\u0662", "1\\2", "2/1", "-2/1",
                     "1:2", "1/-1", "3/9", "9/3"):
            self.refuses(InvalidRatio, read_ratio, text)


if __name__ == "__main__":
    unittest.main()
