"""Program texts and their tokens."""

from odds.errors import InvalidToken
from odds.numerals import has_numeral_form

LETTERS = "abcdefghijklmnopqrstuvwxyz"
WORD_LETTERS = "abcdefghijklmnopqrstuvwxyz0123456789_"
BLANKS = " \n"
SIGNS = (
    "(", ")", "[", "]", "{", "}", ",", ";", ":", ":=", "~", "+", "-", "*", "=", "!=", "<", "<=",
)
KEYWORDS = (
    "int", "bool", "array", "proc", "main", "return", "skip", "flip", "uniform", "pick",
    "observe", "weigh", "assert", "fail", "if", "then", "else", "repeat", "while", "max", "for",
    "from", "to", "call", "and", "or", "not", "true", "false", "min", "div", "mod",
)
LONGEST_NUMERAL = 9


def tokenize(text):
    """Return the list of the tokens of a text."""
    tokens = []
    at = 0
    while at < len(text):
        if text[at] in BLANKS:
            at += 1
        elif text[at] == "#":
            at = _comment_end(text, at)
        else:
            token = _token_at(text, at)
            tokens.append(token)
            at += len(token)
    return tokens


def spell(tokens):
    """Return the tokens joined by single spaces."""
    return " ".join(tokens)


def bracket_depth(tokens):
    """Return the greatest surplus of opening brackets in a beginning of a list."""
    depth = 0
    greatest = 0
    for token in tokens:
        if token in ("(", "[", "{"):
            depth += 1
            greatest = max(greatest, depth)
        elif token in (")", "]", "}"):
            depth -= 1
    return greatest


def is_name(token):
    """Tell whether a token is a name; a keyword is not a name."""
    return _is_word(token) and token not in KEYWORDS


def is_numeral(token):
    """Tell whether a token is a numeral."""
    return has_numeral_form(token)


def _comment_end(text, at):
    end = text.find("\n", at)
    if end < 0:
        return len(text)
    return end


def _token_at(text, at):
    if text[at] in WORD_LETTERS:
        token = _run_at(text, at)
        if _is_word(token) or (is_numeral(token) and len(token) <= LONGEST_NUMERAL):
            return token
        raise InvalidToken(at)
    for length in (2, 1):
        if text[at:at + length] in SIGNS:
            return text[at:at + length]
    raise InvalidToken(at)


def _run_at(text, at):
    end = at
    while end < len(text) and text[end] in WORD_LETTERS:
        end += 1
    return text[at:end]


def _is_word(token):
    """Tell whether a text is a name or a keyword."""
    if token == "" or token[0] not in LETTERS:
        return False
    return all([letter in WORD_LETTERS for letter in token])
