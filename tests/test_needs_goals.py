"""The calls needs and goals: on which items one hangs, and the first item that proves each goal."""

import unittest

from helper import (
    FAR, WORKED, ask, chance_of, formula, goals, load, needs, proves, shown, sizes, some_tree, written,
)

NOT_THERE = (-1, -2, -5, FAR, -FAR, FAR - 1, 1 - FAR, 2 ** 32, -2 ** 63)


class Needs(unittest.TestCase):
    def check(self, text, *expected):
        """What is needed of each item, and how many rows are among that, as sizes tells."""
        loaded, *found = ask(load(text), *[needs(item) for item in range(len(expected))])
        self.assertEqual(found, [[len(hung)] + hung for hung in expected], text)
        of_rows = ask(load(text), *[sizes(item) for item in range(len(expected))])[1:]
        rows = [len([number for number in hung if number >= loaded[1]]) for hung in expected]
        self.assertEqual([answer[2] for answer in of_rows], rows)

    def test_the_worked_text(self):
        self.assertEqual(ask(load(WORKED), needs(3))[1], [4, 0, 1, 2, 3])
        self.check(WORKED, [0], [1], [0, 1, 2], [0, 1, 2, 3], [0, 1, 2, 3, 4])

    def test_an_axiom_hangs_on_itself_alone(self):
        text = "".join(f"axiom a{number} : x ; " for number in range(6)) + "row r : a0, a5 ;"
        self.check(text, [0], [1], [2], [3], [4], [5], [0, 5, 6])

    def test_only_what_is_hung_on_and_in_order(self):
        self.check("axiom k : x ; axiom l : y ; axiom m : z ; row r : m, k ; row s : l, l ; row t : s, r ; "
                   "row u : r, m ; row v : u, s ; row w : l, k ;",
                   [0], [1], [2], [0, 2, 3], [1, 4], [0, 1, 2, 3, 4, 5], [0, 2, 3, 6], [0, 1, 2, 3, 4, 6, 7], [0, 1, 8])

    def test_an_item_that_is_needed_in_several_ways_counts_once(self):
        self.check("axiom k : x > y > x ; row a : k, k ; row b : a, a ; row c : a, b ; row d : c, k ; row e : d, b ;",
                   [0], [0, 1], [0, 1, 2], [0, 1, 2, 3], [0, 1, 2, 3, 4], [0, 1, 2, 3, 4, 5])

    def test_items_that_have_no_formula(self):
        text = "axiom d : ~ x ; axiom u : x ; row r : d, u ; row s : r, d ; row t : u, s ; row v : u, u ;"
        self.assertEqual(ask(load(text), formula(2), formula(3), formula(4))[1:], [[-5]] * 3)
        self.check(text, [0], [1], [0, 1, 2], [0, 1, 2, 3], [0, 1, 2, 3, 4], [1, 5])

    def test_an_unknown_alone_hangs_on_all_that_it_is_detached_from(self):
        # Though the second item tells nothing of what is detached.
        self.check("axiom u : x ; axiom k : x > x ; row r : u, k ; row s : u, r ;", [0], [1], [0, 1, 2], [0, 1, 2, 3])

    def test_30_items(self):
        text = "".join(f"axiom i{number} : x ; " for number in range(6))
        text += "".join(f"row i{number} : i{number - 1}, i{number - 6} ; " for number in range(6, 30))
        found = ask(load(text), needs(29), needs(28), needs(30))[1:]
        self.assertEqual(found, [[30] + list(range(30)), [29] + list(range(29)), [-2]])

    def test_by_chance_as_worked_out_in_another_way(self):
        chance = chance_of(31)
        for round_number in range(60):
            axioms = chance.randrange(1, 7)
            pairs = [(chance.randrange(number), chance.randrange(number)) for number in range(axioms, axioms + 24)]
            text = "".join(f"axiom i{number} : x ; " for number in range(axioms))
            text += "".join(f"row i{axioms + at} : i{one}, i{two} ; " for at, (one, two) in enumerate(pairs))
            hung = [{number} for number in range(axioms)]
            for one, two in pairs:
                hung.append(hung[one] | hung[two] | {len(hung)})
            self.check(text, *[sorted(numbers) for numbers in hung])

    def test_refusals(self):
        self.assertEqual(ask(needs(0), needs(-1), needs(FAR), needs(-FAR)), [[-1]] * 4)
        for number in (5, 6, 30) + NOT_THERE:
            self.assertEqual(ask(load(WORKED), needs(number))[1], [-2], number)


class Goals(unittest.TestCase):
    def check(self, text, *expected):
        """The first items that prove the goals; proves is asked of each of them, too."""
        loaded, found = ask(load(text), goals())
        self.assertEqual(found, [len(expected)] + list(expected), text)
        items = range(loaded[1] + loaded[2])
        for goal, first in enumerate(expected):
            proved = [answer[0] for answer in ask(load(text), *[proves(item, goal) for item in items])[1:]]
            self.assertEqual(first, proved.index(1) if 1 in proved else -1)

    def test_the_worked_text(self):
        self.assertEqual(ask(load(WORKED), goals())[1], [3, 3, 4, -1])
        self.check(WORKED, 3, 4, -1)

    def test_no_goals(self):
        self.check("axiom k : x ;")
        self.check("axiom k : x > y > x ; row r : k, k ;")

    def test_a_goal_that_no_item_proves(self):
        self.check("axiom k : x > y > x ; row r : k, k ; goal x ;", -1)
        self.check("axiom d : ~ x ; goal x > x ; goal x ; goal ~ ~ x ; goal x > ~ y ;", -1, -1, 0, -1)

    def test_a_goal_that_several_items_prove(self):
        self.check("axiom a : x > x ; axiom b : x > y ; axiom u : x ; goal x > y ; goal x > x ; goal ~ x ;", 1, 0, 2)
        self.check("axiom b : x > y ; axiom a : x > x ; row r : a, a ; goal x > x ; goal ~ x > ~ x ;", 0, 0)
        self.check("axiom k : ~ x > y ; axiom i : x > x ; row r : i, i ; row s : i, r ; goal ( x > y ) > x > y ;", 1)

    def test_an_axiom_or_a_row(self):
        text = "axiom i : x > x ; axiom k : x > y > x ; row r : k, i ; row s : i, r ; "
        self.check(text + "goal a > b > b ; goal a > b > a ; goal a > a ; goal a > a > a ;", 2, 1, 0, 1)

    def test_the_last_item(self):
        text = "".join(f"axiom i{number} : ~ x ; " for number in range(4)) + "axiom i4 : ~ x > z ; "
        text += "axiom i5 : ( ~ x > y ) > y ; " + "".join(f"row i{number} : i5, i0 ; " for number in range(6, 29))
        self.check(text + "row i29 : i5, i4 ; goal x ; goal ( ~ x > y ) > y ; goal ~ y ; goal x > x ;", 29, 5, 0, 29)

    def test_items_that_have_no_formula_are_passed_over(self):
        start = "axiom d : ~ x ; axiom t : ~ x > "
        rest = " ; row r : d, d ; row s : t, r ; row v : t, d ; goal x ; goal ~ x ;"
        self.check(start + "x" + rest, 4, 0)
        self.check(start + "~ x" + rest, -1, 0)

    def test_goals_that_are_alike_and_goals_in_their_order(self):
        self.check("axiom i : x > x ; axiom n : ~ x ; goal ~ y ; goal y > y ; goal ~ ~ x ; goal x ;", 1, 0, 1, -1)
        self.check("axiom i : x > x ; goal y > y ; goal x > x ; goal y > x ; goal z > z ;", 0, 0, -1, 0)

    def test_by_chance_as_proves_tells(self):
        chance = chance_of(32)
        kinds = {}
        for round_number in range(150):
            trees = [some_tree(chance, 6, 3) for _ in range(8)]
            text = "".join(f"axiom i{number} : {written(tree)} ; " for number, tree in enumerate(trees[:4]))
            for number in range(4, 10):
                text += f"row i{number} : i{chance.randrange(number)}, i{chance.randrange(number)} ; "
            text += "".join(f"goal {written(tree)} ; " for tree in trees[4:])
            found = ask(load(text), goals())[1]
            self.check(text, *found[1:])
            for item in found[1:]:
                kinds[item] = kinds.get(item, 0) + 1
        self.assertGreater(len(kinds), 6)
        self.assertIn(-1, kinds)

    def test_no_text(self):
        self.assertEqual(ask(goals(), load("goal x ;"), goals()), [[-1], [0, 3, 0], [-1]])

    def test_the_text_stays_as_it_was(self):
        before = ask(load(WORKED), shown(), goals())[1:]
        self.assertEqual(ask(load(WORKED), goals(), needs(4), goals(), needs(9), shown(), goals())[5:], before)


if __name__ == "__main__":
    unittest.main()
