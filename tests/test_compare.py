"""The call compare: alike, an instance one way or the other way, or neither; and refusals."""

import unittest

from helper import (
    FAR, NO_FORMULA, WORKED, ask, chance_of, compare, formula, is_instance, load, some_tree, told, tree_of, written,
)

NOT_THERE = (-1, -2, -5, FAR, -FAR, FAR - 1, 1 - FAR, 2 ** 32, -2 ** 63)


def compared(text, *pairs):
    """What compare answers for each of these pairs of items."""
    loaded, *found = ask(load(text), *[compare(first, second) for first, second in pairs])
    if loaded[0] != 1:
        raise AssertionError(f"not loaded: {loaded}")
    return found


class Compare(unittest.TestCase):
    def check(self, first, second, expected):
        found = compared(f"axiom a : {first} ; axiom b : {second} ;", (0, 1), (1, 0))
        other_way = {0: 0, 1: 2, 2: 1, 3: 3}[expected]
        self.assertEqual(found, [[expected], [other_way]], (first, second))

    def test_the_worked_text(self):
        self.assertEqual(compared(WORKED, (4, 0), (3, 3), (0, 4), (2, 3), (3, 2)), [[0], [3], [0], [0], [0]])

    def test_alike(self):
        for first, second in (("x", "y"), ("x > y > x", "b > ( a > b )"), ("~ x > y", "( ~ y ) > x"),
                              ("x > y", "y > x"), ("( x > y ) > z", "( z > y ) > x"), ("~ ~ x", "~ ( ~ x )")):
            self.check(first, second, 3)

    def test_an_instance_of_the_other_one(self):
        for first, second in (("~ x", "x"), ("x > x", "x"), ("x > x", "x > y"), ("~ ~ x", "~ x"), ("~ x > y", "x > y"),
                              ("x > y > z", "x > y"), ("( x > y ) > x > y", "x > x"), ("~ x > ~ x", "x > x"),
                              ("y > x > x", "x > y > z"), ("( x > y ) > y > x", "x > y"),
                              ("( y > x ) > x > ( y > x ) > x", "x > y > x > y")):
            self.check(first, second, 1)
            self.check(second, first, 2)

    def test_neither(self):
        for first, second in (("x > y > x", "x > y > y"), ("~ x", "x > y"), ("x > ~ y", "~ x > y"),
                              ("x > x", "~ x > y"), ("x > y > y", "x > x > y"), ("( x > y ) > z", "x > y > z"),
                              ("x > x", "( x > y ) > y > x"), ("x > ~ x", "( x > y ) > ~ ( y > x )"),
                              ("~ x > x", "x > ~ x"), ("x > x", "( x > y ) > x > ~ y")):
            self.check(first, second, 0)
            self.check(second, first, 0)

    def test_two_that_have_instances_in_common_and_no_more(self):
        self.check("x > y > ~ y", "~ x > y > z", 0)
        self.check("x > x > y", "x > y > y", 0)

    def test_unknowns_of_both_are_not_the_same(self):
        # The same number is told of unknowns that have nothing to do with one another.
        self.check("x > y > y > x", "y > z > w > y", 1)
        self.check("x > ~ x", "x > y", 1)
        self.check("( x > y ) > x", "x > y", 1)
        self.check("~ y > x > x > ~ y", "x > y > y > x", 1)

    def test_rows_and_axioms(self):
        text = "axiom k : x > y > x ; axiom i : x > x ; row r : k, i ; row s : i, k ; row t : i, i ;"
        self.assertEqual(compared(text, (3, 0), (4, 1), (2, 3), (2, 1), (4, 4), (0, 3)),
                         [[3], [3], [0], [0], [3], [3]])
        narrow = "axiom k : x > y > x ; axiom n : ~ ~ a > b > ~ ~ a ; axiom i : x > x ; row r : i, n ; row s : i, k ;"
        self.assertEqual(compared(narrow, (3, 4), (4, 3), (3, 1), (3, 0), (0, 3)), [[1], [2], [3], [1], [2]])

    def test_formulas_of_up_to_60_signs(self):
        ten = " > ".join(["a"] * 10)
        text = (f"axiom n : {ten} ; axiom t : x > x > x > x ; axiom w : x > ~ x > x > x ; axiom i : x > x ; "
                "axiom p : x > x > x ; axiom q : ~ x > x > x ; row r : t, n ; row s : w, n ; row u : i, r ;")
        of_rows = ask(load(text), formula(6), formula(7), formula(8))[1:]
        self.assertEqual([answer[0] for answer in of_rows], [59, 60, 59])
        pairs = [(6, 4), (4, 6), (7, 5), (5, 7), (6, 7), (8, 6), (6, 8), (6, 5), (7, 7), (6, 3)]
        self.assertEqual(compared(text, *pairs), [[1], [2], [1], [2], [0], [3], [3], [0], [3], [0]])

    def test_every_item_is_alike_to_itself(self):
        found = compared(WORKED, *[(item, item) for item in range(5)])
        self.assertEqual(found, [[3]] * 5)

    def test_by_chance_as_worked_out_in_another_way(self):
        chance = chance_of(21)
        kinds = {0: 0, 1: 0, 2: 0, 3: 0}
        for round_number in range(300):
            trees = [some_tree(chance, chance.randrange(1, 9), 2) for _ in range(5)]
            trees = [tree_of(told(tree)[1:]) for tree in trees]
            text = "".join(f"axiom i{number} : {written(tree)} ; " for number, tree in enumerate(trees))
            pairs = [(first, second) for first in range(5) for second in range(5) if first != second]
            for (first, second), answer in zip(pairs, compared(text, *pairs)):
                one, other = trees[first], trees[second]
                expected = 1 * is_instance(one, other) + 2 * is_instance(other, one)
                self.assertEqual(answer, [expected], (written(one), written(other)))
                self.assertEqual(expected == 3, one == other)
                kinds[expected] += 1
        self.assertGreater(min(kinds.values()), 150)

    def test_the_text_stays_as_it_was(self):
        asked = [formula(item) for item in range(6)]
        self.assertEqual(ask(load(WORKED), compare(4, 0), compare(0, 9), *asked)[3:], ask(load(WORKED), *asked)[1:])


class Refusals(unittest.TestCase):
    # Items 0 and 1 are axioms with a formula, 2 and 3 rows without one; there is no item 4.
    TEXT = "axiom d : ~ x ; axiom u : x ; row r : d, u ; row s : u, r ; goal x ; goal ~ x ;"

    def test_no_text(self):
        self.assertEqual(ask(compare(0, 0), compare(-1, FAR), compare(-FAR, 0)), [[-1]] * 3)

    def test_no_such_item(self):
        for number in (4, 5, 30) + NOT_THERE:
            found = compared(self.TEXT, (number, 1), (1, number), (number, number))
            self.assertEqual(found, [[-2]] * 3, number)

    def test_no_formula(self):
        found = compared(self.TEXT, (2, 1), (1, 2), (0, 3), (2, 2), (2, 3))
        self.assertEqual(found, [NO_FORMULA] * 5)

    def test_all_of_the_first_item_is_looked_at_first(self):
        for number in (4, 5) + NOT_THERE:
            self.assertEqual(compared(self.TEXT, (2, number), (number, 2), (3, number), (number, 3)),
                             [[-5], [-2], [-5], [-2]], number)


if __name__ == "__main__":
    unittest.main()
