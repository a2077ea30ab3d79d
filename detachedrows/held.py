"""A text that is right, as it is held: its items and goals, its one form, how long its proofs are."""

from detachedrows.fitting import detached
from detachedrows.formulas import written


class Held:
    """A text's items, numbered as they are told, and its goals."""

    def __init__(self):
        # The items' numbers by their names, in their order.
        self.numbers = {}
        # Each item's formula, or None if it has none.
        self.formulas = []
        # The two items that each row is detached from.
        self.rows = []
        self.goals = []

    def axiom_count(self):
        """How many axioms there are, which is the first row's number, too."""
        return len(self.formulas) - len(self.rows)

    def add_axiom(self, name, formula):
        """One more axiom."""
        self.numbers[name] = len(self.formulas)
        self.formulas.append(formula)

    def add_row(self, name, first, second):
        """One more row, from two items' numbers."""
        self.numbers[name] = len(self.formulas)
        self.formulas.append(detached(self.formulas[first], self.formulas[second]))
        self.rows.append((first, second))


def one_form(held):
    """The one form of a text, as a text."""
    names = list(held.numbers)
    lines = []
    for name, formula in zip(names[:held.axiom_count()], held.formulas):
        shape = written(formula)
        lines.append(f"axiom {name} : {shape} ;\n")
    for name, pair in zip(names[held.axiom_count():], held.rows):
        first = names[pair[0]]
        second = names[pair[1]]
        lines.append(f"row {name} : {first}, {second} ;\n")
    for goal in held.goals:
        shape = written(goal)
        lines.append(f"goal {shape} ;\n")
    return "".join(lines)


def tree_sizes(held, item):
    """How many steps an item has as a tree, and how deep it is."""
    steps = [0] * held.axiom_count()
    depths = [0] * held.axiom_count()
    for first, second in held.rows:
        steps.append(steps[first] + steps[second] + 1)
        depths.append(max(depths[first], depths[second]) + 1)
    return [steps[item], depths[item]]


def items_hung_on(held, item):
    """The items that an item hangs on, itself too, by their numbers, in order."""
    hung = {item: True}
    # A row's items are told before it, so backwards each one is known in time.
    for number in range(item, held.axiom_count() - 1, -1):
        if number in hung:
            pair = held.rows[number - held.axiom_count()]
            hung[pair[0]] = True
            hung[pair[1]] = True
    return sorted(hung)
