"""The rule: formulas are made to fit, and what is detached from them is worked out."""

from detachedrows.formulas import DENIES, FIRST_UNKNOWN, IMPLIES, is_unknown, unknown_sign

MOST_FITTED = 1000
MOST_DETACHED = 60


class Net:
    """Formulas as nodes, of which some are to become the same.

    Nodes are shared and never copied: what they stand for may double with each unknown.
    """

    def __init__(self):
        # Of each node: its sign (FIRST_UNKNOWN for any unknown), the nodes of its parts, and
        # a node that stands for it, which is the node itself if none else does.
        self.heads = []
        self.parts = []
        self.stands = []

    def add_node(self, head, parts):
        """A new node."""
        node = len(self.heads)
        self.heads.append(head)
        self.parts.append(parts)
        self.stands.append(node)
        return node

    def add_formula(self, formula):
        """The node of a formula; its unknowns are unlike all that are there."""
        unknowns = {}
        ready = []
        for sign in reversed(formula):
            if sign == IMPLIES:
                first = ready.pop()
                second = ready.pop()
                ready.append(self.add_node(IMPLIES, (first, second)))
            elif sign == DENIES:
                ready.append(self.add_node(DENIES, (ready.pop(),)))
            else:
                if sign not in unknowns:
                    unknowns[sign] = self.add_node(FIRST_UNKNOWN, ())
                ready.append(unknowns[sign])
        return ready[0]

    def leader(self, node):
        """The node that stands for this one and all that are the same as it."""
        while self.stands[node] != node:
            node = self.stands[node]
        return node

    def make_same(self, one, other):
        """Make two nodes the same; whether no signs are against it."""
        waiting = [(one, other)]
        while waiting:
            pair = waiting.pop()
            first = self.leader(pair[0])
            second = self.leader(pair[1])
            if first == second:
                continue
            if is_unknown(self.heads[second]):
                self.stands[second] = first
                continue
            # Led onward ahead of their parts, so that no two nodes are gone through twice.
            self.stands[first] = second
            if is_unknown(self.heads[first]):
                continue
            if self.heads[first] != self.heads[second]:
                return False
            for part in zip(self.parts[first], self.parts[second]):
                waiting.append(part)
        return True

    def formula_of(self, node, most):
        """The formula that a node stands for, or None if it has more signs than told."""
        formula = []
        unknowns = {}
        waiting = [node]
        while waiting:
            if len(formula) == most:
                return None
            top = self.leader(waiting.pop())
            if is_unknown(self.heads[top]):
                formula.append(unknowns.setdefault(top, unknown_sign(len(unknowns))))
            else:
                formula.append(self.heads[top])
                waiting.extend(list(reversed(self.parts[top])))
        return formula


def detached(first, second):
    """What is detached from two formulas, or None; None, too, if one of them is None."""
    if first is None or second is None or first[0] == DENIES:
        return None
    if is_unknown(first[0]):
        return [unknown_sign(0)]
    net = Net()
    parts = net.parts[net.add_formula(first)]
    if not net.make_same(parts[0], net.add_formula(second)):
        return None
    # Where an unknown stands within what is put for it, the signs have no end: too many, too.
    if net.formula_of(parts[0], MOST_FITTED) is None:
        return None
    return net.formula_of(parts[1], MOST_DETACHED)
