"""The four promises over the whole program, by what several calls answer together."""

import unittest

from helper import (
    NO_FORMULA, NOTHING, ask, chance_of, compare, detach, detached_slowly, formula, goals, instance_of, load,
    made_more_general, needs, proves, shown, signs, sizes, some_tree, told, tree_of, unknowns_of, written,
)

STARTS = ("x > y > x", "( x > y > z ) > ( x > y ) > x > z", "( ~ x > ~ y ) > y > x", "x > ~ ~ x", "~ ~ x > x", "x",
          "( x > y ) > ( y > z ) > x > z", "( x > y > z ) > y > x > z", "x > x", "( ~ x > x ) > x", "~ ( x > x )")
# Alike, or the first one an instance of the second one.
AT_MOST = ([1], [3])


def some_text(chance):
    """A text by chance: its bytes as a text, how many axioms it has, and its rows' items."""
    axioms = chance.randrange(1, 7)
    lines = [f"axiom i{number} : {chance.choice(STARTS)} ;" for number in range(axioms)]
    pairs = [(chance.randrange(number), chance.randrange(number))
             for number in range(axioms, axioms + chance.randrange(25))]
    lines += [f"row i{axioms + at} : i{one}, i{two} ;" for at, (one, two) in enumerate(pairs)]
    lines += [f"goal {written(some_tree(chance, 9, 3), chance)} ;" for _ in range(chance.randrange(5))]
    return " ".join(lines), axioms, pairs


def some_instance(tree, chance):
    """An instance of a tree, by chance; may be alike."""
    return instance_of(tree, {name: some_tree(chance, 4, 3) for name in sorted(unknowns_of(tree))})


def axioms_of(trees):
    """A text of axioms, one for each tree."""
    return "".join(f"axiom a{number} : {written(tree)} ; " for number, tree in enumerate(trees))


class WhatIsDetached(unittest.TestCase):
    """Promise 1."""

    def test_each_row_has_just_what_is_detached_from_its_items(self):
        chance = chance_of(41)
        seen = 0
        for round_number in range(40):
            text, axioms, pairs = some_text(chance)
            items = range(axioms + len(pairs))
            of_items = ask(load(text), *[formula(item) for item in items])[1:]
            of_pairs = ask(load(text), *[detach(one, two) for one, two in pairs])[1:]
            trees = [None if answer == NO_FORMULA else tree_of(answer[1:]) for answer in of_items]
            for at, (one, two) in enumerate(pairs):
                if trees[one] is None or trees[two] is None:
                    self.assertEqual([of_items[axioms + at], of_pairs[at]], [NO_FORMULA, NO_FORMULA])
                    continue
                result = detached_slowly(trees[one], trees[two])
                self.assertEqual(of_pairs[at], NOTHING if result is None else told(result), text)
                self.assertEqual(of_items[axioms + at], NO_FORMULA if result is None else told(result), text)
                seen += result is not None
        self.assertGreater(seen, 100)

    def test_whatever_follows_is_an_instance_of_it(self):
        # An instance of the first item whose first part is an instance of the second one: what stands
        # behind there follows, too.
        chance = chance_of(42)
        seen = 0
        for round_number in range(1500):
            common = some_tree(chance, 9, 2)
            second = made_more_general(common, chance, {})
            follows = some_tree(chance, 6, 2)
            first = made_more_general((">", common, follows), chance, {})
            if first[0] == "x" or max(signs(first), signs(second)) > 40:
                continue
            text = axioms_of([first, second, follows]) + "row r : a0, a1 ;"
            found = ask(load(text), formula(3), compare(2, 3))[1:]
            self.assertNotEqual(found[0], NO_FORMULA, text)
            self.assertIn(found[1], AT_MOST, text)
            seen += found[1] == [1]
        self.assertGreater(seen, 200)

    def test_from_more_general_items_comes_what_is_more_general(self):
        chance = chance_of(43)
        narrower = 0
        for round_number in range(2500):
            first = (">", some_tree(chance, 8, 3), some_tree(chance, 8, 3))
            second = some_tree(chance, 8, 3)
            trees = [first, second, some_instance(first, chance), some_instance(second, chance)]
            if max(signs(tree) for tree in trees) > 40:
                continue
            text = axioms_of(trees) + "row r : a0, a1 ; row s : a2, a3 ; row t : a0, a3 ; row v : a2, a1 ;"
            of_rows = ask(load(text), *[formula(item) for item in range(4, 8)])[1:]
            for general, narrow in ((4, 5), (4, 6), (4, 7), (6, 5), (7, 5)):
                if of_rows[narrow - 4] == NO_FORMULA:
                    continue
                answer = ask(load(text), compare(narrow, general))[1]
                self.assertIn(answer, AT_MOST, text)
                narrower += answer == [1]
        self.assertGreater(narrower, 200)


class MadeToFit(unittest.TestCase):
    """Promise 2."""

    def test_an_instance_of_each_and_whatever_is_of_both_is_of_that(self):
        # From F > F and another formula comes what both become. Both are made from one formula, which
        # is an instance of both.
        chance = chance_of(44)
        narrower = 0
        for round_number in range(1000):
            both = some_tree(chance, 12, 2)
            first, second = [made_more_general(both, chance, {}) for _ in range(2)]
            text = axioms_of([(">", first, first), first, second, both]) + "row r : a0, a2 ; row s : a0, r ;"
            found = ask(load(text), compare(4, 1), compare(4, 2), compare(3, 4), compare(5, 4), detach(0, 2))[1:]
            for answer in found[:3]:
                self.assertIn(answer, AT_MOST, text)
            self.assertEqual(found[3], [3], text)
            self.assertGreater(found[4][0], 0)
            narrower += found[:3] == [[1], [1], [1]]
        self.assertGreater(narrower, 40)

    def test_both_ways_round_what_they_become_is_alike(self):
        chance = chance_of(45)
        kinds = {"nothing": 0, "something": 0}
        for round_number in range(400):
            first, second = some_tree(chance, 9, 3), some_tree(chance, 9, 3)
            text = axioms_of([(">", first, first), first, (">", second, second), second])
            one, other = ask(load(text), detach(0, 3), detach(2, 1))[1:]
            self.assertEqual(one, other, text)
            kinds["nothing" if one == NOTHING else "something"] += 1
        self.assertGreater(min(kinds.values()), 50)

    def test_an_instance_is_made_to_fit_and_stays_as_it_is(self):
        chance = chance_of(46)
        for round_number in range(200):
            general = some_tree(chance, 9, 3)
            narrow = some_instance(general, chance)
            if signs(narrow) > 40:
                continue
            text = axioms_of([(">", general, general), narrow, general])
            found = ask(load(text), compare(1, 2), detach(0, 1), formula(1))[1:]
            self.assertIn(found[0], AT_MOST, text)
            self.assertEqual(found[1], found[2], text)


class Sizes(unittest.TestCase):
    """Promise 3."""

    def test_no_fewer_steps_as_a_tree_than_as_rows_and_as_rows_no_fewer_than_deep(self):
        chance = chance_of(47)
        unlike = 0
        for round_number in range(60):
            text, axioms, pairs = some_text(chance)
            for item in range(axioms + len(pairs)):
                (steps, depth, rows), hung = ask(load(text), sizes(item), needs(item))[1:]
                self.assertGreaterEqual(steps, rows)
                self.assertGreaterEqual(rows, depth)
                self.assertEqual(hung[0], len(hung) - 1)
                self.assertEqual(rows, len([number for number in hung[1:] if number >= axioms]))
                self.assertEqual(hung[-1], item)
                unlike += steps > rows > depth
        self.assertGreater(unlike, 50)


class OneForm(unittest.TestCase):
    """Promise 4."""

    def test_the_one_form_is_read_as_the_same_text(self):
        chance = chance_of(48)
        seen = 0
        for round_number in range(60):
            text, axioms, pairs = some_text(chance)
            loaded, form = ask(load(text), shown())
            calls = [shown(), goals()]
            for item in range(axioms + len(pairs)):
                calls += [formula(item), sizes(item), needs(item), detach(item, 0), compare(item, 0)]
                calls += [proves(item, goal) for goal in range(loaded[3])]
            for begin in range(0, len(calls), 59):
                some = calls[begin:begin + 59]
                self.assertEqual(ask(load(form[1:]), *some), ask(load(text), *some), text)
            seen += loaded[2] > 0 and loaded[3] > 0
        self.assertGreater(seen, 30)


if __name__ == "__main__":
    unittest.main()
