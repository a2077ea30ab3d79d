"""The calls on one object, one behind another, and their answers as numbers."""

from detachedrows.desk import LOAD, Desk

# How many numbers are given with a call, by the call's number; load's first one tells how
# many bytes come behind it.
GIVEN = (1, 0, 1, 1, 2, 2, 2, 1, 0)


def answers(calls):
    """For each call, in order: how many numbers are answered, and these."""
    desk = Desk()
    numbers = []
    at = 0
    while at < len(calls):
        call = calls[at]
        begin = at + 1
        end = begin + GIVEN[call]
        if call == LOAD:
            begin = end
            end = begin + calls[at + 1]
        answer = desk.answer(call, calls[begin:end])
        numbers.append(len(answer))
        numbers.extend(answer)
        at = end
    return numbers
