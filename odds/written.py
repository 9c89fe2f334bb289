"""The written form of diagrams, which does not depend on a store."""

from odds.errors import InvalidDiagram
from odds.numerals import from_digits, has_numeral_form, to_digits

LONGEST_NUMERAL = 9


def write_diagram(store, a):
    """Return the written form of a diagram."""
    if a < 2:
        return to_digits(a)
    numbers = _walk_numbers(store, a)
    rows = []
    for each in numbers:
        if each > 1:
            level = to_digits(store.level(each))
            high = to_digits(numbers[store.high(each)])
            low = to_digits(numbers[store.low(each)])
            rows.append(f"{level}?{high}:{low}")
    return "; ".join(rows)


def read_diagram(store, text):
    """Return the diagram whose written form is the text."""
    if text in ("0", "1"):
        return from_digits(text)
    references = [0, 1]
    for row in text.split("; "):
        references.append(_read_row(store, row, references))
    a = references[-1]
    # This tells rows that are not reached, that stand twice or in another order than that of the
    # walk, and those with equal parts, which are no nodes.
    if write_diagram(store, a) != text:
        raise InvalidDiagram("the rows are not those of a walk through a diagram")
    return a


def _walk_numbers(store, a):
    """Return the numbers of the constants and of all nodes, as the walk leaves them."""
    numbers = {0: 0, 1: 1}
    # The nodes that the walk has not left, each below the one to which it went on.
    entered = [a]
    while entered:
        each = entered[-1]
        if store.low(each) not in numbers:
            entered.append(store.low(each))
        elif store.high(each) not in numbers:
            entered.append(store.high(each))
        else:
            numbers[each] = len(numbers)
            entered.pop()
    return numbers


def _read_row(store, row, references):
    """Return the node of a row, whose parts are among the references of the rows before it."""
    level_text, _, parts_text = row.partition("?")
    high_text, _, low_text = parts_text.partition(":")
    level = _read_numeral(level_text)
    high = _read_part(high_text, references)
    low = _read_part(low_text, references)
    for part in (low, high):
        if part > 1 and store.level(part) <= level:
            raise InvalidDiagram("the levels do not rise")
    return store.node(level, low, high)


def _read_part(text, references):
    number = _read_numeral(text)
    if number >= len(references):
        raise InvalidDiagram("a row refers to itself or to a later row")
    return references[number]


def _read_numeral(text):
    if not has_numeral_form(text) or len(text) > LONGEST_NUMERAL:
        raise InvalidDiagram("a part is not a numeral of at most nine digits")
    return from_digits(text)
