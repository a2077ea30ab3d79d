"""The object that holds a text, or none, and answers the calls on it."""

from detachedrows.faults import Fault
from detachedrows.fitting import detached
from detachedrows.formulas import is_instance, told
from detachedrows.held import items_hung_on, one_form, tree_sizes
from detachedrows.texts import read_text

LOAD = 0
SHOWN = 1
FORMULA = 2
SIZES = 3
PROVES = 4
DETACH = 5
COMPARE = 6
NEEDS = 7


class Desk:
    """Holds the text that was loaded last."""

    def __init__(self):
        self.held = None

    def answer(self, call, given):
        """The answer to a call, by its number and what is given with it."""
        if call == LOAD:
            return self.load(given)
        if self.held is None:
            return [-1]
        if call == SHOWN:
            return shown(self.held)
        if call == FORMULA:
            return formula(self.held, given[0])
        if call == SIZES:
            return sizes(self.held, given[0])
        if call == PROVES:
            return proves(self.held, given[0], given[1])
        if call == DETACH:
            return detach(self.held, given[0], given[1])
        if call == COMPARE:
            return compare(self.held, given[0], given[1])
        if call == NEEDS:
            return needs(self.held, given[0])
        return goals(self.held)

    def load(self, data):
        """Hold the text that these bytes are, if it is right."""
        try:
            self.held = read_text(data)
        except Fault as fault:
            return [0, fault.code, fault.place]
        return [1, self.held.axiom_count(), len(self.held.rows), len(self.held.goals)]


def has_number(numbered, number):
    """Whether one of what is numbered from 0 has this number."""
    return 0 <= number < len(numbered)


def shown(held):
    """The one form's bytes, and ahead of them how many they are."""
    form = one_form(held)
    return [len(form)] + [ord(character) for character in form]


def refused(held, items):
    """The refusal if one of these items is not there or has no formula, all of the first one first; else empty."""
    for item in items:
        if not has_number(held.formulas, item):
            return [-2]
        if held.formulas[item] is None:
            return [-5]
    return []


def formula(held, item):
    """An item's formula."""
    refusal = refused(held, [item])
    if refusal:
        return refusal
    return told(held.formulas[item])


def sizes(held, item):
    """An item's steps as a tree, how deep it is, and on how many rows it hangs."""
    if not has_number(held.formulas, item):
        return [-2]
    rows = [number for number in items_hung_on(held, item) if number >= held.axiom_count()]
    return tree_sizes(held, item) + [len(rows)]


def is_proved(goal, general):
    """Whether an item whose formula this is, or None, proves the goal."""
    return general is not None and is_instance(goal, general)


def proves(held, item, goal):
    """1 if the item proves the goal, else 0."""
    if not has_number(held.formulas, item):
        return [-2]
    if not has_number(held.goals, goal):
        return [-3]
    return [1] if is_proved(held.goals[goal], held.formulas[item]) else [0]


def detach(held, first, second):
    """What is detached from two items, or 0 if nothing is."""
    refusal = refused(held, [first, second])
    if refusal:
        return refusal
    rest = detached(held.formulas[first], held.formulas[second])
    return [0] if rest is None else told(rest)


def compare(held, first, second):
    """3 if two items' formulas are alike, 1 or 2 if one is an instance of the other one, else 0."""
    refusal = refused(held, [first, second])
    if refusal:
        return refusal
    one = held.formulas[first]
    other = held.formulas[second]
    if one == other:
        return [3]
    if is_instance(one, other):
        return [1]
    return [2] if is_instance(other, one) else [0]


def needs(held, item):
    """How many items an item hangs on, and they."""
    if not has_number(held.formulas, item):
        return [-2]
    hung = items_hung_on(held, item)
    return [len(hung)] + hung


def goals(held):
    """How many goals there are, and for each the first item that proves it, or -1."""
    return [len(held.goals)] + [first_proof(held, goal) for goal in held.goals]


def first_proof(held, goal):
    """The first item that proves a goal, or -1 if none does."""
    for item, general in enumerate(held.formulas):
        if is_proved(goal, general):
            return item
    return -1
