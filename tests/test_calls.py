"""The calls: the worked text, sizes, proves, refusals and their order, and the interface."""

import unittest

from detachedrows.proofs import answers
from helper import (
    FAR, WORKED, ask, chance_of, compare, detach, formula, goals, load, needs, one_form, proves, shown, sizes,
)

CHAIN = "axiom k : x > y > x ; row r0 : k, k ; " + "".join(f"row r{n + 1} : r{n}, r{n} ; " for n in range(23))


class Worked(unittest.TestCase):
    def test_the_worked_text(self):
        found = ask(load(WORKED), formula(2), formula(3), sizes(3), sizes(4), proves(3, 0), proves(3, 1), goals(),
                    needs(3), detach(3, 0), detach(0, 3), compare(4, 0), compare(3, 3))
        self.assertEqual(found, [[1, 2, 3, 3], [7, 1, 1, 0, 0, 0, 1, 1, 0, 0, 0, 0], [3, 1, 0, 0, 0, 0],
                                 [2, 2, 2], [3, 3, 3], [1], [0], [3, 3, 4, -1],
                                 [4, 0, 1, 2, 3], [5, 1, 0, 0, 1, 0, 1, 0, 0], [5, 1, 0, 0, 1, 0, 1, 0, 1], [0], [3]])

    def test_shown_and_loaded_again_it_is_shown_the_same(self):
        form = ask(load(WORKED), shown())[1]
        again = ask(load(form[1:]), shown(), formula(2), sizes(4), proves(3, 0))
        self.assertEqual(again, [[1, 2, 3, 3], form, [7, 1, 1, 0, 0, 0, 1, 1, 0, 0, 0, 0], [3, 3, 3], [1]])

    def test_all_items_of_the_worked_text(self):
        found = ask(load(WORKED), *[call(item) for item in range(5) for call in (formula, sizes)])[1:]
        self.assertEqual(found[0::2], [[5, 1, 0, 0, 1, 0, 1, 0, 0],
                                       [13, 1, 1, 0, 0, 1, 0, 1, 0, 2, 1, 1, 0, 0, 0, 1, 1, 0, 0, 0, 2],
                                       [7, 1, 1, 0, 0, 0, 1, 1, 0, 0, 0, 0], [3, 1, 0, 0, 0, 0],
                                       [5, 1, 0, 0, 1, 0, 1, 0, 1]])
        self.assertEqual(found[1::2], [[0, 0, 0], [0, 0, 0], [1, 1, 1], [2, 2, 2], [3, 3, 3]])


class Sizes(unittest.TestCase):
    def test_axioms_have_none(self):
        text = "axiom a : x ; axiom b : y ; row r : a, b ;"
        self.assertEqual(ask(load(text), sizes(0), sizes(1))[1:], [[0, 0, 0], [0, 0, 0]])

    def test_an_item_that_is_hung_on_by_several_ways(self):
        text = ("axiom k : x > y > x ; row a : k, k ; row b : a, a ; row c : a, b ; row d : k, c ; "
                "row e : d, b ; row f : k, k ; row g : f, e ; row h : g, g ;")
        found = ask(load(text), *[sizes(item) for item in range(9)])[1:]
        self.assertEqual(found, [[0, 0, 0], [1, 1, 1], [3, 2, 2], [5, 3, 3], [6, 4, 4], [10, 5, 5],
                                 [1, 1, 1], [12, 6, 7], [25, 7, 8]])

    def test_the_deeper_item_on_either_side(self):
        text = "axiom k : x ; row a : k, k ; row b : a, k ; row c : k, b ; row d : a, c ; row e : c, a ;"
        found = ask(load(text), *[sizes(item) for item in range(1, 6)])[1:]
        self.assertEqual(found, [[1, 1, 1], [2, 2, 2], [3, 3, 3], [5, 4, 4], [5, 4, 4]])

    def test_rows_between_that_are_not_hung_on_do_not_count(self):
        text = "axiom k : x ; axiom l : x ; row a : k, k ; row b : l, l ; row c : a, k ; row d : b, b ; row e : l, d ;"
        found = ask(load(text), *[sizes(item) for item in range(2, 7)])[1:]
        self.assertEqual(found, [[1, 1, 1], [1, 1, 1], [2, 2, 2], [3, 2, 2], [4, 3, 3]])

    def test_24_rows_that_double(self):
        found = ask(load(CHAIN), sizes(24), sizes(23), sizes(12))
        self.assertEqual(found, [[1, 1, 24, 0], [2 ** 24 - 1, 24, 24], [2 ** 23 - 1, 23, 23], [4095, 12, 12]])

    def test_rows_that_have_no_formula_have_sizes(self):
        text = "axiom d : ~ x ; row a : d, d ; row b : a, d ; row c : b, a ;"
        self.assertEqual(ask(load(text), formula(3), sizes(1), sizes(2), sizes(3))[1:],
                         [[-5], [1, 1, 1], [2, 2, 2], [4, 3, 3]])

    def test_steps_as_a_tree_rows_and_depth_by_chance(self):
        chance = chance_of(6)
        for round_number in range(60):
            axioms = chance.randrange(1, 7)
            pairs = [(chance.randrange(number), chance.randrange(number)) for number in range(axioms, axioms + 24)]
            text = "".join(f"axiom i{number} : x ; " for number in range(axioms))
            text += "".join(f"row i{axioms + at} : i{one}, i{two} ; " for at, (one, two) in enumerate(pairs))
            found = ask(load(text), *[sizes(item) for item in range(axioms + 24)])[1:]

            def by_hand(item):
                if item < axioms:
                    return 0, 0, set()
                one, two = [by_hand(part) for part in pairs[item - axioms]]
                return one[0] + two[0] + 1, max(one[1], two[1]) + 1, one[2] | two[2] | {item}
            for item in range(axioms + 24):
                steps, depth, rows = by_hand(item)
                self.assertEqual(found[item], [steps, depth, len(rows)])
                self.assertGreaterEqual(found[item][0], found[item][2])
                self.assertGreaterEqual(found[item][2], found[item][1])


class Proves(unittest.TestCase):
    def check(self, item, goal, expected):
        found = ask(load(f"axiom a : {item} ; goal {goal} ;"), proves(0, 0))
        self.assertEqual(found, [[1, 1, 0, 1], [expected]], (item, goal))

    def test_an_instance(self):
        for item, goal in (("x", "y"), ("x", "y > ~ z"), ("x > x", "y > y"), ("x > y", "y > y"), ("x > y", "y > x"),
                           ("x > x", "( a > ~ b ) > a > ~ b"), ("~ x", "~ ~ ~ y"), ("~ x > y", "~ y > x > y"),
                           ("x > y > x", "~ a > a > ~ a"), ("x > y > z", "x > y > z > x"),
                           ("( x > y ) > x", "( x > x ) > x"), ("x > y > y", "y > ( x > y ) > x > y")):
            self.check(item, goal, 1)

    def test_no_instance(self):
        for item, goal in (("x > x", "y"), ("~ x", "y"), ("~ x", "x > x"), ("x > x", "~ x"), ("x > x", "x > y"),
                           ("x > x", "( x > y ) > ( y > x )"), ("x > y > x", "x > y > y"), ("x > y > x", "x > y"),
                           ("~ ~ x", "~ x"), ("~ x > y", "x > y"), ("x > x", "x > x > x"), ("( x > y ) > z", "x > y"),
                           ("x > ~ x", "( a > b ) > ~ ( b > a )"), ("x > x", "( a > b ) > a > ~ b")):
            self.check(item, goal, 0)

    def test_unknowns_of_the_goal_are_not_put_for(self):
        self.check("x > y > x", "z", 0)
        self.check("x", "x", 1)
        self.check("x > y", "x", 0)

    def test_unknowns_of_item_and_goal_are_not_the_same(self):
        # By number the goal's unknowns are 0 and 1 crosswise to what is put for those of the item.
        self.check("x > y > x > y", "( y > x ) > x > ( y > x ) > x", 1)
        self.check("x > y > y > x", "~ y > x > x > ~ y", 1)
        self.check("x > ~ x", "~ a > ~ ~ a", 1)
        self.check("x > ~ x", "~ a > ~ a", 0)

    def test_rows_and_each_goal(self):
        found = ask(load(WORKED), *[proves(item, goal) for item in range(5) for goal in range(3)])[1:]
        self.assertEqual([answer[0] for answer in found], [0, 0, 0, 0, 0, 0, 0, 0, 0, 1, 0, 0, 0, 1, 0])

    def test_an_item_that_has_no_formula_proves_nothing(self):
        text = "axiom d : ~ x ; axiom u : x ; row a : d, d ; goal x ; goal ~ x ;"
        found = ask(load(text), proves(2, 0), proves(2, 1), proves(1, 0), proves(0, 1), proves(0, 0), proves(2, 2))
        self.assertEqual(found[1:], [[0], [0], [1], [1], [0], [-3]])

    def test_a_row_of_more_signs_than_the_goal(self):
        nineteen = " > ".join(["a"] * 10)
        text = f"axiom a : x > ~ x > x > x ; axiom b : {nineteen} ; row r : a, b ; goal x ; goal ~ x > y ; goal {nineteen} ;"
        self.assertEqual(ask(load(text), proves(2, 0), proves(2, 1), proves(2, 2), proves(0, 0))[1:], [[0]] * 4)


class Refusals(unittest.TestCase):
    NUMBERS = (-1, -2, -5, 5, 6, 24, 30, FAR, -FAR, FAR - 1, 1 - FAR)

    def test_every_call_but_load_while_there_is_no_text(self):
        calls = [shown(), formula(0), sizes(0), proves(0, 0), formula(-1), formula(FAR), sizes(-FAR), sizes(99),
                 proves(-1, 0), proves(0, -1), proves(FAR, -FAR), detach(0, 0), detach(FAR, -1), compare(0, 0),
                 compare(-FAR, 0), needs(0), needs(FAR), goals()]
        self.assertEqual(ask(*calls), [[-1]] * len(calls))
        self.assertEqual(ask(load("axiom"), *calls), [[0, 3, 5]] + [[-1]] * len(calls))
        self.assertEqual(ask(*calls, load("axiom k : x ;"), sizes(0)), [[-1]] * len(calls) + [[1, 1, 0, 0], [0, 0, 0]])

    def test_no_such_item(self):
        for number in self.NUMBERS:
            found = ask(load(WORKED), formula(number), sizes(number), proves(number, 0), proves(number, 2),
                        detach(number, 0), detach(0, number), compare(number, 0), compare(0, number), needs(number))
            self.assertEqual(found[1:], [[-2]] * 9, number)

    def test_no_such_goal(self):
        for number in (3, 4) + self.NUMBERS:
            self.assertEqual(ask(load(WORKED), proves(0, number), proves(4, number))[1:], [[-3], [-3]], number)
        self.assertEqual(ask(load("axiom k : x ;"), proves(0, 0), proves(0, -1), proves(0, 1))[1:], [[-3]] * 3)

    def test_no_such_item_is_looked_at_ahead_of_no_such_goal(self):
        for item in self.NUMBERS:
            for goal in (3,) + self.NUMBERS:
                self.assertEqual(ask(load(WORKED), proves(item, goal))[1], [-2])

    def test_no_formula(self):
        text = "axiom d : ~ x ; row a : d, d ;"
        self.assertEqual(ask(load(text), formula(1), formula(0), formula(2), formula(-1))[1:],
                         [[-5], [2, 2, 0, 0], [-2], [-2]])
        # A goal that is not there is refused for an item that has no formula, too.
        self.assertEqual(ask(load(text), proves(1, 0), sizes(1))[1:], [[-3], [1, 1, 1]])

    def test_the_first_and_the_last_of_what_is_there(self):
        found = ask(load(WORKED), formula(0), formula(4), sizes(0), sizes(4), proves(0, 0), proves(4, 2))[1:]
        self.assertTrue(all(answer[0] >= 0 for answer in found))

    def test_a_refusal_leaves_the_text(self):
        form = ask(load(WORKED), shown())[1]
        found = ask(load(WORKED), formula(9), sizes(-1), proves(0, 9), proves(9, 9), detach(0, 9), compare(9, 0),
                    needs(-1), shown(), proves(3, 0))
        self.assertEqual(found[1:], [[-2], [-2], [-3], [-2], [-2], [-2], [-2], form, [1]])


class Interface(unittest.TestCase):
    def test_each_answer_stands_behind_how_many_numbers_it_has(self):
        text = list(b"axiom k : x ; goal ~ y ;")
        form = list(b"axiom k : x0 ;\ngoal ~ x0 ;\n")
        line = [1, 0, len(text)] + text + [2, 0, 3, 0, 4, 0, 0, 4, 0, 1, 1, 2, 1, 0, 0]
        self.assertEqual(answers(line), [1, -1, 4, 1, 1, 0, 1, 3, 1, 0, 0, 3, 0, 0, 0, 1, 1, 1, -3,
                                         len(form) + 1, len(form)] + form + [1, -2, 3, 0, 3, 0])

    def test_each_call_has_its_number_and_its_numbers_in_their_order(self):
        text = list(b"axiom u : ~ x ; axiom i : x > x ; row r : i, u ; goal ~ x ;")
        line = [0, len(text)] + text + [5, 1, 0, 5, 0, 1, 6, 0, 1, 7, 2, 8, 6, 2, 0, 5, 9, 8, 8, 7, -7, 6, 1, 3]
        self.assertEqual(answers(line), [4, 1, 2, 1, 1, 4, 2, 2, 0, 0, 1, 0, 1, 0, 4, 3, 0, 1, 2, 2, 1, 0, 1, 3,
                                         1, -2, 2, 1, 0, 1, -2, 1, -2])
        self.assertEqual(answers([8, 7, 8, 6, 8, 8, 5, 8, 8, 8]), [1, -1] * 5)

    def test_one_call(self):
        self.assertEqual(answers([1]), [1, -1])
        self.assertEqual(answers([0, 0]), [3, 0, 3, 0])
        self.assertEqual(answers([4, FAR, -FAR]), [1, -1])

    def test_60_calls(self):
        some = [shown(), formula(3), sizes(4), proves(3, 0), detach(1, 0), compare(2, 3), needs(4), goals()]
        calls = [load(WORKED)] + some * 7 + [formula(2), sizes(2), shown()]
        self.assertEqual(len(calls), 60)
        found = ask(*calls)
        self.assertEqual(found[1:9] * 7, found[1:57])
        self.assertEqual(found[59], found[1])
        self.assertEqual(found[5], found[57])

    def test_bytes_that_are_like_calls(self):
        self.assertEqual(ask(load([1, 1, 1]), shown(), load([2, 0]), load([])),
                         [[0, 2, 0], [-1], [0, 2, 0], [0, 3, 0]])

    def test_the_greatest_lists_of_bytes(self):
        self.assertEqual(ask(load(WORKED), load([0] * 8192), load([255] * 8192), sizes(3)),
                         [[1, 2, 3, 3], [0, 1, 4096], [0, 1, 4096], [2, 2, 2]])

    def test_what_is_handed_in_is_not_changed(self):
        line = (load(WORKED) + shown() + formula(2) + proves(4, 1) + load("axiom") + sizes(3) + detach(1, 0)
                + compare(4, 0) + needs(4) + goals() + detach(9, 9))
        kept = list(line)
        first = answers(line)
        self.assertEqual(line, kept)
        self.assertEqual(answers(line), first)
        self.assertEqual(line, kept)

    def test_nothing_is_kept_from_one_time_to_the_next(self):
        line = load(WORKED) + formula(3) + detach(1, 0) + compare(4, 0) + needs(4) + goals()
        first = answers(line)
        for call in (formula(3), detach(1, 0), compare(4, 0), needs(4), goals()):
            self.assertEqual(answers(call), [1, -1])
        answers(load("axiom k : ~ x ;"))
        self.assertEqual(answers(shown()), [1, -1])
        self.assertEqual(answers(line), first)

    def test_what_is_given_back_may_be_changed(self):
        line = load(WORKED) + formula(3) + shown() + detach(1, 0) + needs(4) + goals()
        first = answers(line)
        kept = list(first)
        first.clear()
        self.assertEqual(answers(line), kept)
        self.assertIs(type(kept), list)

    def test_numbers_are_never_true_or_false(self):
        found = answers(load(WORKED) + proves(3, 0) + proves(3, 1) + formula(3) + sizes(0) + shown() + detach(0, 3)
                        + detach(1, 3) + compare(4, 0) + compare(3, 3) + needs(4) + goals())
        self.assertEqual({type(number) for number in found}, {int})

    def test_several_texts_on_one_object(self):
        found = ask(load("axiom k : x ;"), sizes(1), goals(), load(WORKED), sizes(1), goals(), load(CHAIN), sizes(24),
                    needs(24), goals(), load(WORKED), sizes(24), sizes(4), needs(4), load("axiom"), goals())
        self.assertEqual(found, [[1, 1, 0, 0], [-2], [0], [1, 2, 3, 3], [0, 0, 0], [3, 3, 4, -1], [1, 1, 24, 0],
                                 [2 ** 24 - 1, 24, 24], [25] + list(range(25)), [0],
                                 [1, 2, 3, 3], [-2], [3, 3, 3], [5, 0, 1, 2, 3, 4], [0, 3, 5], [3, 3, 4, -1]])

    def test_a_text_that_is_not_right_changes_nothing(self):
        asked = [shown(), goals(), needs(3), detach(3, 0), detach(0, 3), compare(3, 2), formula(4), sizes(4)]
        before = ask(load(WORKED), *asked)[1:]
        for wrong in ("", "axiom k : x", "axiom k : x ; row r : k, k ; goal", "axiom k : ~ x ; row k : k, k ;", "!"):
            self.assertEqual(ask(load(WORKED), load(wrong), *asked)[2:], before)

    def test_one_form_is_the_same_though_names_of_unknowns_differ(self):
        self.assertEqual(one_form("axiom k : a > b > a ;"), one_form("axiom k : q > ( ( p ) > q ) ;"))


if __name__ == "__main__":
    unittest.main()
