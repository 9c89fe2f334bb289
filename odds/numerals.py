"""Integers and their decimal forms."""

from odds.errors import InvalidNumeral

DIGITS = "0123456789"

# Python refuses to convert long numbers at once, so they are converted in
# pieces of at most this many digits.
PIECE = 64


def to_digits(number):
    """Return the decimal form of an integer."""
    if number < 0:
        return "-" + _numeral_of(-number)
    return _numeral_of(number)


def from_digits(text):
    """Return the integer whose decimal form is the text."""
    digits = text.removeprefix("-")
    if text == "-0" or not has_numeral_form(digits):
        raise InvalidNumeral("the text is not the decimal form of an integer")
    number = _number_of(digits)
    if text.startswith("-"):
        return -number
    return number


def has_numeral_form(text):
    """Tell whether a text is a numeral, of whatever length."""
    if text == "" or (text[0] == "0" and text != "0"):
        return False
    return all([letter in DIGITS for letter in text])


def _numeral_of(number):
    power = 10 ** 64
    if number < power:
        return str(number)
    width = PIECE
    while power * power <= number:
        power = power * power
        width = width * 2
    high, low = divmod(number, power)
    return _numeral_of(high) + _numeral_of(low).zfill(width)


def _number_of(digits):
    if len(digits) <= PIECE:
        return int(digits)
    power = 10 ** 64
    width = PIECE
    while width * 2 < len(digits):
        power = power * power
        width = width * 2
    return _number_of(digits[:-width]) * power + _number_of(digits[-width:])
