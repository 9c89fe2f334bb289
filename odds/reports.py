"""Reports: the texts of answers."""

from odds.errors import InvalidNumeral, InvalidRatio, InvalidReport
from odds.numerals import from_digits, to_digits
from odds.ratios import ONE, plus_all, read_ratio, write_ratio

TRUTHS = {"false": False, "true": True}
LOST_WORDS = ("rejected", "exhausted", "faulted")


def write_report(answer):
    """Return the report of an answer."""
    lines = [f"{_shown_key(key)}: {write_ratio(mass)}\n" for key, mass in answer[0]]
    for word, mass in zip(LOST_WORDS, answer[1:]):
        lines.append(f"{word}: {write_ratio(mass)}\n")
    return "".join(lines)


def read_report(text):
    """Return the answer whose report is the text."""
    # Each line ends with a line feed, so nothing may stand behind the last one.
    *lines, behind = text.split("\n")
    if behind != "" or len(lines) < 3:
        raise InvalidReport("lines are missing, or the last one does not end")
    table = [_read_pair(line) for line in lines[:-3]]
    lost = [_read_lost(line, word) for line, word in zip(lines[-3:], LOST_WORDS)]
    _check_keys([key for key, _ in table])
    if plus_all([mass for _, mass in table] + lost) != ONE:
        raise InvalidReport("the masses do not add up to one")
    return (tuple(table), *lost)


def _shown_key(key):
    return "(" + ", ".join([_shown_item(item) for item in key]) + ")"


def _shown_item(item):
    if isinstance(item, bool):
        return "true" if item else "false"
    return to_digits(item)


def _read_pair(line):
    """Return the key and the mass of a line of the table."""
    key_text, _, mass_text = line.partition("): ")
    mass = _read_mass(mass_text)
    if not key_text.startswith("(") or mass[0] == 0:
        raise InvalidReport("a line does not show a key with a mass greater than zero")
    if key_text == "(":
        return ((), mass)
    return (tuple([_read_item(item) for item in key_text[1:].split(", ")]), mass)


def _read_item(text):
    if text in TRUTHS:
        return TRUTHS[text]
    try:
        return from_digits(text)
    except InvalidNumeral:
        raise InvalidReport("an item of a key is neither an integer nor a boolean") from None


def _read_lost(line, word):
    """Return the mass of one of the last three lines."""
    start, _, mass_text = line.partition(": ")
    if start != word:
        raise InvalidReport("one of the last three lines begins with another word")
    return _read_mass(mass_text)


def _read_mass(text):
    try:
        mass = read_ratio(text)
    except InvalidRatio:
        raise InvalidReport("a mass is not the written form of a ratio") from None
    if mass[0] < 0:
        raise InvalidReport("a mass is less than zero")
    return mass


def _check_keys(keys):
    """Check that keys are alike and ascending."""
    kinds = [[isinstance(item, bool) for item in key] for key in keys]
    for at in range(1, len(keys)):
        if kinds[at] != kinds[at - 1] or not keys[at - 1] < keys[at]:
            raise InvalidReport("the keys are not alike, or not ascending")
