"""A place in the tokens of a text, from which is read."""

from detachedrows.faults import Fault
from detachedrows.tokens import is_name


class Cursor:
    """The tokens of a text, and which of them is read next."""

    def __init__(self, tokens):
        self.tokens = tokens
        self.at = 0

    def word(self):
        """The word of the token that is read next."""
        return self.tokens[self.at][0]

    def here(self):
        """The place of the token that is read next."""
        return self.tokens[self.at][1]

    def go_on(self):
        """Go on to the token behind."""
        self.at += 1

    def expect(self, word):
        """Read a token that has to have this word; fault 3 if it has not."""
        if self.word() != word:
            raise Fault(3, self.here())
        self.go_on()

    def name(self):
        """The name that is read next; fault 3 if it is none."""
        if not is_name(self.word()):
            raise Fault(3, self.here())
        return self.word()
