"""Stepping through the tokens of a module."""

from fascicle.errors import Malformed
from fascicle.lexer import tokens


class Cursor:
    """The tokens of a module, and how many of them have been read.

    The key of a token is what the grammar calls it: of a reserved word and a sign its value, of a
    name, a number and a string its kind. Behind the last token the key is "end". No two of these
    are the same, because name, number, string and end are not reserved.
    """

    def __init__(self, text, module):
        self.module = module
        # A return may stand only inside the block of a function: where this is greater than 0.
        self.functions = 0
        self._tokens = [*tokens(text, module), ("end", None, len(text))]
        self._done = 0

    def key(self):
        """Return the key of the next token."""
        return token_key(self._tokens[self._done])

    def key_behind(self):
        """Return the key of the token behind the next one, which is not the end."""
        return token_key(self._tokens[self._done + 1])

    def place(self):
        """Return the index in the text at which the next token begins."""
        return self._tokens[self._done][2]

    def expect(self, key):
        """Step over the next token and return its value, or refuse it if it has another key."""
        if self.key() != key:
            raise Malformed(self.module, self.place())
        token = self._tokens[self._done]
        self._done += 1
        return token[1]

    def takes(self, key):
        """Step over the next token if it has the key; return whether it has."""
        fits = self.key() == key
        if fits:
            self._done += 1
        return fits


def token_key(token):
    """Return the key of a token."""
    if token[0] in ("word", "sign"):
        return token[1]
    return token[0]
