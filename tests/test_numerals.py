"""Points 1.1 and 1.2: decimal forms."""

import unittest

from odds.errors import InvalidNumeral
from odds.numerals import from_digits, to_digits
from tests.support import Case, Numbers, few_calls

# No decimal form is one of these.
REFUSED = (
    "", "-", "+", "-0", "+0", "+1", "-+1", "+-1", "--1", "---1", "01", "-01", "00", "-00", "007",
    " ", " 1", "1 ", "1 2", "- 1", "-1 ", " -1", "\n1", "1\n", "1\t", "1_000", "_1", "1_", "1.0",
    ".", "1e3", "0x1", "0b1", "a", "1a", "a1", "-a", "1-", "1-2", "1/2", "1,000", "True",
    "\u0661", "\u00b2", "1\u0662", "\uff11", "\u22121", "1\u00a0", "\u2460", "I", "1\x00",
)
# How many digits: around the lengths at which conversions go in pieces.
LENGTHS = (1, 2, 9, 10, 18, 19, 20, 63, 64, 65, 127, 128, 129, 191, 192, 193, 255, 256, 257, 511,
           512, 513, 639, 640, 641, 1000, 4095, 4096, 4097, 4299, 4300, 4301, 8600, 8601, 20000)


def number_of(digits):
    """The integer of a numeral, digit by digit."""
    number = 0
    for digit in digits:
        number = number * 10 + ord(digit) - ord("0")
    return number


def random_digits(length, seed):
    numbers = Numbers(seed)
    digits = [numbers.one_of("0001234567899") for _ in range(length)]
    digits[0] = numbers.one_of("123456789")
    return "".join(digits)


class ToDigitsTest(Case):

    def test_small(self):
        for number, text in ((0, "0"), (1, "1"), (9, "9"), (10, "10"), (-1, "-1"), (-120, "-120"),
                             (999999999, "999999999"), (-1000000000, "-1000000000")):
            self.same(to_digits(number), text)

    def test_near_zero(self):
        for number in range(-1100, 1101):
            self.same(to_digits(number), f"{number}")

    def test_of_any_length(self):
        for length in LENGTHS:
            digits = random_digits(length, length)
            self.assertTrue(to_digits(number_of(digits)) == digits, length)
            self.assertTrue(to_digits(-number_of(digits)) == "-" + digits, length)

    def test_inner_zeros_and_nines(self):
        for length in LENGTHS:
            power = 10 ** length
            self.assertTrue(to_digits(power) == "1" + "0" * length, length)
            self.assertTrue(to_digits(power - 1) == "9" * length, length)
            self.assertTrue(to_digits(power + 1) == "1" + "0" * (length - 1) + "1", length)
            self.assertTrue(to_digits(-power) == "-1" + "0" * length, length)


class FromDigitsTest(Case):

    def test_small(self):
        for text, number in (("0", 0), ("7", 7), ("10", 10), ("-1", -1), ("-120", -120),
                             ("100200300", 100200300), ("-1000000000", -1000000000)):
            self.same(from_digits(text), number)

    def test_refused(self):
        for text in REFUSED:
            self.refuses(InvalidNumeral, from_digits, text)

    def test_every_single_character(self):
        for code in range(300):
            if chr(code) in "0123456789":
                self.same(from_digits(chr(code)), code - ord("0"))
            else:
                self.refuses(InvalidNumeral, from_digits, chr(code))

    def test_of_any_length(self):
        for length in LENGTHS:
            digits = random_digits(length, length + 1)
            self.assertTrue(from_digits(digits) == number_of(digits), length)
            self.assertTrue(from_digits("-" + digits) == -number_of(digits), length)
            self.assertTrue(from_digits("1" + "0" * length) == 10 ** length, length)

    def test_refused_of_any_length(self):
        for length in (64, 65, 128, 130, 4299, 4300, 4301, 9000):
            digits = random_digits(length, length)
            half = length // 2
            for text in ("0" + digits, "-0" + digits, "+" + digits, "--" + digits, digits + "-",
                         digits + " ", " " + digits, digits[:half] + " " + digits[half:],
                         digits[:half] + "_" + digits[half:], digits[:half] + "-" + digits[half:],
                         digits[:half] + "a" + digits[half:], digits + "\n", "0" * length):
                with self.assertRaises(InvalidNumeral):
                    from_digits(text)

    def test_calls_do_not_nest_deep(self):
        number = 10 ** 60000 // 7
        digits = few_calls(to_digits, number)
        self.assertEqual(digits[:12], "142857142857")
        self.assertEqual(len(digits), 60000)
        self.assertTrue(few_calls(from_digits, digits) == number)

    def test_reverse(self):
        for number in (*range(-300, 301), 2 ** 64, -2 ** 64, 3 ** 20000, -7 ** 9000):
            self.assertTrue(from_digits(to_digits(number)) == number)


if __name__ == "__main__":
    unittest.main()
