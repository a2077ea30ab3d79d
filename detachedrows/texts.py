"""From the bytes of a text to what is held of it."""

from detachedrows.cursors import Cursor
from detachedrows.faults import Fault
from detachedrows.held import Held
from detachedrows.parsing import read_formula
from detachedrows.tokens import END, all_tokens

MOST_BYTES = 4096
MOST_AXIOMS = 6
MOST_ROWS = 24
MOST_GOALS = 4


def read_text(data):
    """The text that these bytes are; its first fault if it is not right."""
    if len(data) > MOST_BYTES:
        raise Fault(1, MOST_BYTES)
    cursor = Cursor(all_tokens(data))
    held = Held()
    read_axioms(cursor, held)
    read_rows(cursor, held)
    read_goals(cursor, held)
    cursor.expect(END)
    return held


def read_axioms(cursor, held):
    """Read all axioms; there has to be one."""
    read_axiom(cursor, held)
    while cursor.word() == "axiom":
        check_room(cursor, held.axiom_count(), MOST_AXIOMS)
        read_axiom(cursor, held)


def read_axiom(cursor, held):
    """Read one axiom."""
    cursor.expect("axiom")
    name = read_new_name(cursor, held)
    cursor.expect(":")
    held.add_axiom(name, read_formula(cursor))


def read_rows(cursor, held):
    """Read all rows, if there are any."""
    while cursor.word() == "row":
        check_room(cursor, len(held.rows), MOST_ROWS)
        cursor.go_on()
        name = read_new_name(cursor, held)
        cursor.expect(":")
        first = read_item(cursor, held)
        cursor.expect(",")
        second = read_item(cursor, held)
        cursor.expect(";")
        held.add_row(name, first, second)


def read_goals(cursor, held):
    """Read all goals, if there are any."""
    while cursor.word() == "goal":
        check_room(cursor, len(held.goals), MOST_GOALS)
        cursor.go_on()
        held.goals.append(read_formula(cursor))


def check_room(cursor, count, most):
    """Fault 4 if there is no room for one more."""
    if count == most:
        raise Fault(4, cursor.here())


def read_new_name(cursor, held):
    """Read a name that no item has."""
    name = cursor.name()
    if name in held.numbers:
        raise Fault(5, cursor.here())
    cursor.go_on()
    return name


def read_item(cursor, held):
    """Read the name of an item that is told already: its number."""
    name = cursor.name()
    if name not in held.numbers:
        raise Fault(8, cursor.here())
    cursor.go_on()
    return held.numbers[name]
