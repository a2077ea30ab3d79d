"""Formulas: how they are kept, told and written, and which is an instance of which.

A formula is kept as the list of its signs, each one ahead of its parts: IMPLIES, DENIES,
or an unknown's sign. Unknowns are numbered from 0, as they come.
"""

IMPLIES = 0
DENIES = 1
FIRST_UNKNOWN = 2


def unknown_sign(number):
    """The sign of the unknown that has this number."""
    return FIRST_UNKNOWN + number


def is_unknown(sign):
    """Whether a sign is an unknown's."""
    return sign >= FIRST_UNKNOWN


def told(formula):
    """The numbers that tell a formula: how many signs it has, then those of its signs."""
    numbers = [len(formula)]
    for sign in formula:
        if sign == IMPLIES:
            numbers.append(1)
        elif sign == DENIES:
            numbers.append(2)
        else:
            numbers.extend([0, sign - FIRST_UNKNOWN])
    return numbers


def part_end(formula, begin):
    """Where the part of a formula ends that begins at this one of its signs."""
    missing = 1
    end = begin
    while missing > 0:
        if formula[end] == IMPLIES:
            missing += 1
        elif is_unknown(formula[end]):
            missing -= 1
        end += 1
    return end


def is_instance(formula, pattern):
    """Whether the formula is the pattern with some formula put for each unknown."""
    put = {}
    at = 0
    for sign in pattern:
        if is_unknown(sign):
            end = part_end(formula, at)
            part = formula[at:end]
            if put.setdefault(sign, part) != part:
                return False
            at = end
        elif formula[at] == sign:
            at += 1
        else:
            return False
    return True


def written(formula):
    """A formula's one form, as a text."""
    # From the last sign to the first one, so that a sign's parts are there ahead of it.
    # Each part is kept with whether it is an implication.
    parts = []
    for sign in reversed(formula):
        if sign == IMPLIES:
            first = bracketed(parts.pop())
            second = parts.pop()[0]
            parts.append((f"{first} > {second}", True))
        elif sign == DENIES:
            denied = bracketed(parts.pop())
            parts.append((f"~ {denied}", False))
        else:
            number = sign - FIRST_UNKNOWN
            parts.append((f"x{number}", False))
    return parts[0][0]


def bracketed(part):
    """A part's text, in brackets if it is an implication."""
    text = part[0]
    return f"( {text} )" if part[1] else text
