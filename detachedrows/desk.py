"""The object that holds a text, or none, and answers the calls on it."""

from detachedrows.faults import Fault
from detachedrows.formulas import is_instance, told
from detachedrows.held import one_form, rows_hung_on, tree_sizes
from detachedrows.texts import read_text

LOAD = 0
SHOWN = 1
FORMULA = 2
SIZES = 3


class Desk:
    """Holds the text that was loaded last."""

    def __init__(self):
        self.held = None

    def answer(self, call, given):
        """The answer to a call, by its number and what is given with it."""
        if call == LOAD:
            return self.load(given)
        if self.held is None:
            return [-1]
        if call == SHOWN:
            return shown(self.held)
        if call == FORMULA:
            return formula(self.held, given[0])
        if call == SIZES:
            return sizes(self.held, given[0])
        return proves(self.held, given[0], given[1])

    def load(self, data):
        """Hold the text that these bytes are, if it is right."""
        try:
            self.held = read_text(data)
        except Fault as fault:
            return [0, fault.code, fault.place]
        return [1, self.held.axiom_count(), len(self.held.rows), len(self.held.goals)]


def has_number(numbered, number):
    """Whether one of what is numbered from 0 has this number."""
    return 0 <= number < len(numbered)


def shown(held):
    """The one form's bytes, and ahead of them how many they are."""
    form = one_form(held)
    return [len(form)] + [ord(character) for character in form]


def formula(held, item):
    """An item's formula."""
    if not has_number(held.formulas, item):
        return [-2]
    if held.formulas[item] is None:
        return [-5]
    return told(held.formulas[item])


def sizes(held, item):
    """An item's steps as a tree, how deep it is, and on how many rows it hangs."""
    if not has_number(held.formulas, item):
        return [-2]
    return tree_sizes(held, item) + [len(rows_hung_on(held, item))]


def proves(held, item, goal):
    """1 if the item proves the goal, else 0."""
    if not has_number(held.formulas, item):
        return [-2]
    if not has_number(held.goals, goal):
        return [-3]
    general = held.formulas[item]
    if general is not None and is_instance(held.goals[goal], general):
        return [1]
    return [0]
