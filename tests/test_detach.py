"""The call detach: what is detached from two items, 0 alone, and refusals."""

import unittest

from helper import (
    FAR, NO_FORMULA, NOTHING, WORKED, ask, chance_of, detach, detached_slowly, formula, goals, load, needs,
    shown, sizes, some_tree, told, tree_of, written,
)

UNKNOWN = [1, 0, 0]
NOT_THERE = (-1, -2, -5, FAR, -FAR, FAR - 1, 1 - FAR, 2 ** 32, -2 ** 63)


def detached_from(text, *pairs):
    """What detach answers for each of these pairs of items."""
    loaded, *found = ask(load(text), *[detach(first, second) for first, second in pairs])
    if loaded[0] != 1:
        raise AssertionError(f"not loaded: {loaded}")
    return found


class Detach(unittest.TestCase):
    def test_the_worked_text(self):
        found = detached_from(WORKED, (3, 0), (0, 3), (1, 0), (2, 0), (0, 3))
        self.assertEqual(found, [[5, 1, 0, 0, 1, 0, 1, 0, 0], [5, 1, 0, 0, 1, 0, 1, 0, 1],
                                 [7, 1, 1, 0, 0, 0, 1, 1, 0, 0, 0, 0], [3, 1, 0, 0, 0, 0],
                                 [5, 1, 0, 0, 1, 0, 1, 0, 1]])

    def test_every_pair_of_the_worked_text_as_worked_out_in_another_way(self):
        self.check_every_pair(WORKED, 5)

    def check_every_pair(self, text, count):
        trees = []
        for answer in ask(load(text), *[formula(item) for item in range(count)])[1:]:
            trees.append(None if answer == NO_FORMULA else tree_of(answer[1:]))
        for first in range(count):
            found = detached_from(text, *[(first, second) for second in range(count)])
            for second in range(count):
                self.assertEqual(found[second], slowly(trees[first], trees[second]), (text, first, second))

    def test_every_pair_of_rows_by_chance_as_worked_out_in_another_way(self):
        chance = chance_of(11)
        kinds = {"refused": 0, "nothing": 0, "something": 0}
        for round_number in range(12):
            trees = [(">", some_tree(chance, 7, 3), some_tree(chance, 9, 3)) for _ in range(3)]
            trees += [some_tree(chance, 9, 3) for _ in range(3)]
            text = "".join(f"axiom i{number} : {written(tree)} ; " for number, tree in enumerate(trees))
            for number in range(6, 14):
                first, second = chance.randrange(number), chance.randrange(number)
                text += f"row i{number} : i{first}, i{second} ; "
            self.check_every_pair(text, 14)
            for answer in detached_from(text, *[(first, second) for first in range(7) for second in range(6, 14)]):
                kinds["something" if answer[0] > 0 else "nothing" if answer == NOTHING else "refused"] += 1
        self.assertGreater(min(kinds.values()), 40)

    def test_a_row_has_what_detach_tells_of_its_items(self):
        chance = chance_of(12)
        start = ("axiom i0 : x > y > x ; axiom i1 : ( x > y > z ) > ( x > y ) > x > z ; "
                 "axiom i2 : ( ~ x > ~ y ) > y > x ; ")
        for round_number in range(10):
            pairs = [(chance.randrange(number), chance.randrange(number)) for number in range(3, 27)]
            text = start + "".join(f"row i{at + 3} : i{one}, i{two} ; " for at, (one, two) in enumerate(pairs))
            of_pairs = detached_from(text, *pairs)
            of_rows = ask(load(text), *[formula(item) for item in range(3, 27)])[1:]
            self.assertEqual(of_rows, [answer if answer[0] > 0 else NO_FORMULA for answer in of_pairs])

    def test_the_first_item_comes_first(self):
        text = "axiom a : x > x > x ; axiom b : ~ y ;"
        self.assertEqual(detached_from(text, (0, 1), (1, 0)), [[5, 1, 2, 0, 0, 2, 0, 0], NOTHING])

    def test_an_item_with_itself(self):
        text = "axiom k : x > y > x ; axiom i : x > x ; axiom d : ~ x ; axiom w : ( x > y ) > ~ x > z ;"
        self.assertEqual(detached_from(text, (0, 0), (1, 1), (2, 2), (3, 3)),
                         [[7, 1, 0, 0, 1, 0, 1, 1, 0, 2, 0, 1], [3, 1, 0, 0, 0, 0], NOTHING,
                          [6, 1, 2, 1, 0, 0, 0, 1, 0, 2]])

    def test_items_may_come_in_any_order(self):
        # The first one of them may be told behind the other one, and a later row may be the second one.
        text = "axiom i : x > x ; axiom k : x > y > x ; row r : k, i ; row s : i, r ;"
        self.assertEqual(detached_from(text, (3, 0), (0, 3), (2, 1), (1, 2)),
                         [[3, 1, 0, 0, 0, 0], [5, 1, 0, 0, 1, 0, 1, 0, 1], [3, 1, 0, 0, 0, 0],
                          [7, 1, 0, 0, 1, 0, 1, 1, 0, 2, 0, 2]])

    def test_from_an_unknown_alone_an_unknown_is(self):
        text = "axiom u : x ; axiom d : ~ x ; axiom k : x > x ; row r : u, k ;"
        pairs = [(first, second) for first in (0, 3) for second in range(4)]
        self.assertEqual(detached_from(text, *pairs), [UNKNOWN] * 8)

    def test_nothing_is_from_a_denied_one(self):
        text = "axiom d : ~ x ; axiom e : ~ ~ ( x > y ) ; axiom k : x > x ; axiom u : x ;"
        pairs = [(first, second) for first in (0, 1) for second in range(4)]
        self.assertEqual(detached_from(text, *pairs), [NOTHING] * 8)

    def test_nothing_is_if_both_can_not_become_the_same(self):
        text = "axiom a : ~ x > x ; axiom b : x > y ; axiom c : ( x > x ) > y ; axiom d : ~ ( x > ~ x ) ;"
        self.assertEqual(detached_from(text, (0, 1), (2, 3), (0, 2), (0, 3)),
                         [NOTHING, NOTHING, NOTHING, [4, 1, 0, 0, 2, 0, 0]])

    def test_nothing_is_if_an_unknown_would_stand_within_what_is_put_for_it(self):
        text = "axiom a : ( x > x ) > y ; axiom b : x > ~ x ; axiom c : x > x ; axiom e : ( x > ~ x ) > y ;"
        self.assertEqual(detached_from(text, (0, 1), (0, 2), (3, 2), (3, 1)), [NOTHING, UNKNOWN, NOTHING, UNKNOWN])

    def test_60_signs_detached_and_more(self):
        nineteen = " > ".join(["a"] * 10)
        text = (f"axiom n : {nineteen} ; axiom a : x > ~ x > x > x ; axiom b : x > ~ x > x > ~ x ; "
                "axiom c : x > x > x > x ;")
        found = detached_from(text, (1, 0), (2, 0), (3, 0))
        self.assertEqual([answer[0] for answer in found], [60, 0, 59])
        self.assertEqual(found[1], NOTHING)
        self.assertEqual(len(found[0]), 1 + 60 + 30)

    def test_1000_signs_made_to_fit_and_more(self):
        first = "x0 > ~ ~ ( x0 > x0 ) > x2 > ~ ~ ( x2 > x2 ) > x4 > ~ ~ ( x4 > x4 ) > x6"
        second = "~ ~ ~ ~ x50 > x1 > ~ ~ ( x1 > x1 ) > x3 > ~ ~ ( x3 > x3 ) > x5 > ~ ( x5 > x5 )"
        text = (f"axiom a : ( {first} ) > z ; axiom b : {second} ; axiom c : ~ ( {first} ) > z ; "
                f"axiom e : ~ ( {second} ) ; axiom f : ( {first} ) > x6 ;")
        self.assertEqual(detached_from(text, (0, 1), (2, 3), (4, 1)), [UNKNOWN, NOTHING, NOTHING])

    def test_rows_of_more_signs_than_formulas_that_are_told(self):
        ten = " > ".join(["a"] * 10)
        text = (f"axiom n : {ten} ; axiom t : x > x > x > x ; axiom i : x > x ; axiom p : x > ( x > y ) > y ; "
                "row r : t, n ;")
        found = detached_from(text, (2, 4), (4, 0), (1, 4), (3, 4), (4, 4), (4, 2))
        self.assertEqual([answer[0] for answer in found], [59, 39, 0, 0, 0, 0])
        self.assertEqual(found[0], ask(load(text), formula(4))[1])
        self.assertEqual(found[2:], [NOTHING] * 4)

    def test_formulas_that_double_again_and_again(self):
        pairs = [f"x{number} > ( x{number} > x{number} )" for number in range(10)]
        text = (f"axiom a : v > ( ( x0 > x0 ) > {' > '.join(pairs[1:5])} > v ) > z ; "
                f"axiom b : {' > '.join(pairs[5:])} ; axiom c : v > {' > '.join(pairs[:6])} > v ; "
                f"axiom d : {' > '.join(pairs[6:9])} > x9 ; row f : a, b ; row h : c, d ;")
        self.assertEqual(detached_from(text, *[(4, 5)] * 59), [NOTHING] * 59)

    def test_the_text_stays_as_it_was(self):
        asked = [shown(), goals(), needs(4)] + [call(item) for call in (formula, sizes) for item in range(6)]
        before = ask(load(WORKED), *asked)[1:]
        pairs = [detach(3, 0), detach(0, 3), detach(4, 4), detach(9, 0), detach(1, 1)]
        self.assertEqual(ask(load(WORKED), *pairs, *asked)[6:], before)


class Refusals(unittest.TestCase):
    # Items 0, 1 and 2 are axioms with a formula, 3 and 4 rows without one; there is no item 5.
    TEXT = "axiom d : ~ x ; axiom u : x ; axiom k : x > y > x ; row r : d, u ; row s : u, r ; goal x ;"

    def test_no_text(self):
        self.assertEqual(ask(detach(0, 0), detach(-1, FAR), detach(-FAR, 0)), [[-1]] * 3)

    def test_no_such_item(self):
        for number in (5, 6, 30) + NOT_THERE:
            found = detached_from(self.TEXT, (number, 1), (1, number), (0, number), (number, number))
            self.assertEqual(found, [[-2]] * 4, number)

    def test_no_formula(self):
        found = detached_from(self.TEXT, (3, 1), (1, 3), (0, 3), (2, 4), (3, 3), (3, 4), (4, 0))
        self.assertEqual(found, [NO_FORMULA] * 7)

    def test_all_of_the_first_item_is_looked_at_first(self):
        for number in (5, 6) + NOT_THERE:
            self.assertEqual(detached_from(self.TEXT, (3, number), (number, 3), (4, number), (number, 4)),
                             [[-5], [-2], [-5], [-2]], number)

    def test_the_last_item_that_is_there(self):
        text = "axiom k : x > y > x ; axiom u : x ;"
        self.assertEqual(detached_from(text, (1, 1), (0, 1), (2, 0), (0, 2)),
                         [UNKNOWN, [3, 1, 0, 0, 0, 1], [-2], [-2]])


def slowly(first, second):
    """What detach has to answer for two items' trees, or None for an item that has no formula."""
    if first is None or second is None:
        return NO_FORMULA
    result = detached_slowly(first, second)
    return NOTHING if result is None else told(result)


if __name__ == "__main__":
    unittest.main()
