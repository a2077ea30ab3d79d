"""From the bytes of a text to its tokens.

A token is its word and its place. The end of the text is a token, too; its word is empty.
"""

from detachedrows.faults import Fault

BLANKS = " \t\n"
REMARK = "#"
SIGNS = "(),:;>~"
DIGITS = "0123456789"
LETTERS = "abcdefghijklmnopqrstuvwxyzABCDEFGHIJKLMNOPQRSTUVWXYZ"
# Stands for every byte that begins no token; it begins none itself.
STRANGE = "?"
END = ""
KEYWORDS = ("axiom", "row", "goal")
LONGEST_NAME = 16
GREATEST_NUMBER = 1000000000
LONGEST_NUMBER = 10


def characters(data):
    """The bytes as a text with one character for each byte, so that places stay what they are."""
    known = {}
    for character in BLANKS + REMARK + SIGNS + DIGITS + LETTERS:
        known[ord(character)] = character
    return "".join([known.get(byte, STRANGE) for byte in data])


def all_tokens(data):
    """All tokens of the bytes, the end's too; fault 2 if there is a place where none begins."""
    text = characters(data)
    found = []
    place = after_blanks(text, 0)
    while place < len(text):
        end = token_end(text, place)
        found.append((text[place:end], place))
        place = after_blanks(text, end)
    found.append((END, place))
    return found


def after_blanks(text, place):
    """The first place from this one on that is in no blank and no remark."""
    while place < len(text):
        if text[place] == REMARK:
            place = remark_end(text, place)
        elif text[place] in BLANKS:
            place += 1
        else:
            return place
    return place


def remark_end(text, place):
    """Where the remark ends that begins at the place."""
    end = text.find("\n", place)
    return len(text) if end < 0 else end


def token_end(text, place):
    """Where the token ends that begins at the place; fault 2 if none does."""
    if text[place] in SIGNS:
        return place + 1
    if text[place] in LETTERS:
        end = run_end(text, place, LETTERS + DIGITS)
        right = end - place <= LONGEST_NAME
    else:
        end = run_end(text, place, DIGITS)
        right = is_number(text[place:end])
    if not right:
        raise Fault(2, place)
    return end


def run_end(text, place, allowed):
    """How far from the place on there are only characters that are allowed."""
    while place < len(text) and text[place] in allowed:
        place += 1
    return place


def is_number(digits):
    """Whether these digits, maybe none, are a number as a text may have it."""
    # The length is looked at first, for Python may refuse to read very many digits.
    if digits == "" or len(digits) > LONGEST_NUMBER:
        return False
    if len(digits) > 1 and digits[0] == "0":
        return False
    return int(digits) <= GREATEST_NUMBER


def is_name(word):
    """Whether a token's word is a name."""
    return word != END and word[0] in LETTERS and word not in KEYWORDS
