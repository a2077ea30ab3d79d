"""From tokens to a formula."""

from detachedrows.faults import Fault
from detachedrows.formulas import DENIES, IMPLIES, unknown_sign
from detachedrows.tokens import is_name

MOST_SIGNS = 40
MOST_AROUND = 40


class Draft:
    """A formula of which some tokens are read."""

    def __init__(self):
        self.signs = []
        self.unknowns = {}
        # The words ~, ( and > that have not ended, each with where its first sign is or will be.
        self.around = []
        self.brackets = 0
        # Whether a part has just ended, and where its first sign is.
        self.ended = False
        self.begin = 0

    def is_whole(self):
        """Whether what is read is a formula."""
        return self.ended and self.brackets == 0

    def takes(self, word):
        """Whether the formula may go on with this word."""
        if self.ended:
            return word == ">" or (word == ")" and self.brackets > 0)
        return word == "~" or word == "(" or is_name(word)

    def put(self, word):
        """Go on with this word."""
        if word == "~":
            self.around.append((word, len(self.signs)))
            self.signs.append(DENIES)
        elif word == "(":
            self.around.append((word, len(self.signs)))
            self.brackets += 1
        elif word == ">":
            self.around.append((word, self.begin))
            self.signs.insert(self.begin, IMPLIES)
            self.ended = False
        elif word == ")":
            self.put_bracket_end()
        else:
            self.signs.append(self.unknowns.setdefault(word, unknown_sign(len(self.unknowns))))
            self.end_part(len(self.signs) - 1)

    def put_bracket_end(self):
        """End the innermost bracket, and with it each > within."""
        while self.around[-1][0] == ">":
            self.around.pop()
        self.brackets -= 1
        self.end_part(self.around.pop()[1])

    def end_part(self, begin):
        """A part has ended whose first sign is there, and with it each ~ straight before it."""
        while self.around and self.around[-1][0] == "~":
            begin = self.around.pop()[1]
        self.begin = begin
        self.ended = True


def read_formula(cursor):
    """Read a formula and the ; behind it."""
    start = cursor.here()
    draft = Draft()
    while cursor.word() != ";" or not draft.is_whole():
        if not draft.takes(cursor.word()):
            raise Fault(3, cursor.here())
        if cursor.word() in ("~", "(", ">") and len(draft.around) >= MOST_AROUND:
            raise Fault(10, cursor.here())
        draft.put(cursor.word())
        cursor.go_on()
    cursor.go_on()
    if len(draft.signs) > MOST_SIGNS:
        raise Fault(9, start)
    return draft.signs
