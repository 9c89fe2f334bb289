"""A reader of tokens."""

from odds.errors import InvalidSyntax
from odds.numerals import from_digits
from odds.tokens import is_name, is_numeral


class Cursor:
    """Reads a list of tokens from left to right."""

    def __init__(self, tokens):
        self._tokens = list(tokens)
        self._taken = 0

    @property
    def taken(self):
        """The number of tokens taken so far."""
        return self._taken

    def peek(self):
        """Return the next token, or the empty text if there is none."""
        if self._taken < len(self._tokens):
            return self._tokens[self._taken]
        return ""

    def take(self):
        """Return the next token and move past it."""
        token = self.peek()
        if token == "":
            raise InvalidSyntax(self._taken)
        self._taken += 1
        return token

    def skip_if(self, token):
        """Move past the next token if it is the given one, and tell whether it was."""
        if self.peek() != token:
            return False
        self.take()
        return True

    def expect(self, token):
        """Move past the next token, which must be the given one."""
        if not self.skip_if(token):
            raise InvalidSyntax(self._taken)

    def name(self):
        """Take the next token, which must be a name."""
        if not is_name(self.peek()):
            raise InvalidSyntax(self._taken)
        return self.take()

    def numeral(self):
        """Take the next token, which must be a numeral, and return its integer."""
        if not is_numeral(self.peek()):
            raise InvalidSyntax(self._taken)
        return from_digits(self.take())
