"""The rule: what is detached, and when nothing is."""

import unittest

from helper import (
    NO_FORMULA, NOTHING, WORKED, ask, chance_of, detached, detached_slowly, fitted, formula, instance_of,
    is_instance, load, made_more_general, proves, put_in, renamed, signs, some_tree, told, tree_of, written,
)

# Formulas made to fit, of which the first one becomes one of just 1000 signs.
FITTED = "x0 > ~ ~ ( x0 > x0 ) > x2 > ~ ~ ( x2 > x2 ) > x4 > ~ ~ ( x4 > x4 ) > x6"
FITTING = "~ ~ ~ ~ x50 > x1 > ~ ~ ( x1 > x1 ) > x3 > ~ ~ ( x3 > x3 ) > x5 > ~ ( x5 > x5 )"
UNKNOWN = [1, 0, 0]


class Rule(unittest.TestCase):
    def test_the_worked_rows(self):
        answers = ask(load(WORKED), formula(2), formula(3), formula(4))
        self.assertEqual(answers[1], [7, 1, 1, 0, 0, 0, 1, 1, 0, 0, 0, 0])
        self.assertEqual(answers[2], [3, 1, 0, 0, 0, 0])
        self.assertEqual(answers[3], [5, 1, 0, 0, 1, 0, 1, 0, 1])

    def test_what_is_detached_is_what_stands_behind(self):
        self.assertEqual(detached("x > y", "z"), UNKNOWN)
        self.assertEqual(detached("x > x", "~ z > z"), [4, 1, 2, 0, 0, 0, 0])
        self.assertEqual(detached("x > ~ x", "a > b"), [4, 2, 1, 0, 0, 0, 1])
        self.assertEqual(detached("( x > y ) > y", "a > a > b"), [3, 1, 0, 0, 0, 1])
        self.assertEqual(detached("( x > y ) > x", "a > a > b"), UNKNOWN)
        self.assertEqual(detached("~ x > x > x", "~ ( a > b )"), [7, 1, 1, 0, 0, 0, 1, 1, 0, 0, 0, 1])

    def test_unknowns_of_both_formulas_are_unlike_though_they_are_called_alike(self):
        self.assertEqual(detached("x > y > x", "x > y"), [5, 1, 0, 0, 1, 0, 1, 0, 2])
        self.assertEqual(detached("x > y > x", "y"), [3, 1, 0, 0, 0, 1])
        self.assertEqual(detached("( x > x ) > x", "x > x"), UNKNOWN)
        self.assertEqual(detached("( x > y ) > y > x", "y > ~ x"), [4, 1, 2, 0, 0, 0, 1])
        self.assertEqual(detached("x > ~ x", "~ x"), [3, 2, 2, 0, 0])

    def test_the_first_item_comes_first(self):
        text = "axiom a : x > x > x ; axiom b : ~ y ; row r : a, b ; row s : b, a ;"
        self.assertEqual(ask(load(text), formula(2), formula(3))[1:], [[5, 1, 2, 0, 0, 2, 0, 0], NO_FORMULA])

    def test_unknowns_are_numbered_anew_in_what_is_detached(self):
        self.assertEqual(detached("x > y > z > y", "w"), [5, 1, 0, 0, 1, 0, 1, 0, 0])
        self.assertEqual(detached("( a > b > c ) > c > b > a", "u > v > w"), [5, 1, 0, 0, 1, 0, 1, 0, 2])
        self.assertEqual(detached("( a > b ) > b > a", "u > v > u"), [5, 1, 1, 0, 0, 0, 1, 0, 1])

    def test_an_item_with_itself(self):
        text = "axiom k : x > y > x ; axiom i : x > x ; row r : k, k ; row s : i, i ; row t : r, r ;"
        answers = ask(load(text), formula(2), formula(3), formula(4))[1:]
        self.assertEqual(answers[0], [7, 1, 0, 0, 1, 0, 1, 1, 0, 2, 0, 1])
        self.assertEqual(answers[1], [3, 1, 0, 0, 0, 0])
        self.assertEqual(answers[2], [5, 1, 0, 0, 1, 0, 1, 0, 0])

    def test_from_an_unknown_alone_an_unknown_is(self):
        for second in ("x", "~ x", "x > y", "( x > x ) > ~ y"):
            self.assertEqual(detached("z", second), UNKNOWN)
        text = "axiom a : x > y ; row u : a, a ; row v : u, a ; row w : a, u ; row z : v, w ;"
        self.assertEqual(ask(load(text), *[formula(item) for item in range(1, 5)])[1:], [UNKNOWN] * 4)

    def test_nothing_is_from_a_first_formula_that_is_a_denied_one(self):
        for first in ("~ x", "~ ~ x", "~ ( x > y )"):
            for second in ("x", "~ x", "x > y"):
                self.assertEqual(detached(first, second), NOTHING)

    def test_nothing_is_if_both_can_not_become_the_same(self):
        self.assertEqual(detached("~ x > y", "a > b"), NOTHING)
        self.assertEqual(detached("( x > y ) > y", "~ a"), NOTHING)
        self.assertEqual(detached("( x > x ) > y", "~ a > ( b > c )"), NOTHING)
        self.assertEqual(detached("( x > x ) > y", "( a > b ) > ~ c"), NOTHING)
        self.assertEqual(detached("~ ~ x > y", "~ ( a > a )"), NOTHING)
        self.assertEqual(detached("( x > y > x ) > z", "~ a > b > ( c > a )"), NOTHING)

    def test_nothing_is_if_an_unknown_would_stand_within_what_is_put_for_it(self):
        self.assertEqual(detached("( x > x ) > y", "a > ~ a"), NOTHING)
        self.assertEqual(detached("( x > x ) > y", "a > a > b"), NOTHING)
        self.assertEqual(detached("( x > ~ x ) > y", "a > a"), NOTHING)
        self.assertEqual(detached("( x > y > x ) > z", "~ a > b > b > a"), NOTHING)
        self.assertEqual(detached("( x > ~ y > y ) > z", "a > a > ~ b > ~ a"), NOTHING)
        # It is so, too, where what is detached has nothing of it, and round several unknowns.
        self.assertEqual(detached("( x > y > z ) > w", "~ a > ~ b > ~ c"), UNKNOWN)
        self.assertEqual(detached("( x > ( y > z ) > x > y > z ) > w", "a > ( b > c ) > ~ b > ~ c > ~ a"), NOTHING)

    def test_the_same_unknown_on_both_sides_is_no_circle(self):
        self.assertEqual(detached("( x > x ) > x", "a > a"), UNKNOWN)
        self.assertEqual(detached("( x > y > x > y ) > x > y", "a > a > b > b"), [3, 1, 0, 0, 0, 0])
        self.assertEqual(detached("( x > y > x ) > x > y", "~ a > a > ~ b"), [4, 1, 2, 0, 0, 0, 0])

    def test_a_row_whose_item_has_no_formula_has_none(self):
        text = ("axiom d : ~ x ; axiom a : x > y ; axiom u : x ; row n : d, a ; row r : n, a ; row s : a, n ; "
                "row t : u, n ; row v : n, u ; row w : n, n ; row x : t, u ; row y : u, a ;")
        answers = ask(load(text), *[formula(item) for item in range(3, 11)])
        self.assertEqual(answers, [[1, 3, 8, 0]] + [NO_FORMULA] * 7 + [UNKNOWN])

    def test_1000_signs_when_put_in_and_more(self):
        self.assertEqual(detached(f"( {FITTED} ) > z", FITTING), UNKNOWN)
        self.assertEqual(detached(f"~ ( {FITTED} ) > z", f"~ ( {FITTING} )"), NOTHING)
        self.assertEqual(detached(f"( w > {FITTED} ) > z", f"w > {FITTING}"), NOTHING)
        self.assertEqual(detached(f"~ ~ ( {FITTED} ) > z", f"~ ~ ( {FITTING} )"), NOTHING)
        shorter = FITTING.replace("~ ( x5", "( x5")
        self.assertEqual(detached(f"~ ( {FITTED} ) > z", f"~ ( {shorter} )"), UNKNOWN)
        self.assertEqual(detached(f"( w > {FITTED} ) > z", f"w > {shorter}"), NOTHING)
        # What is detached is asked of itself: it may have few signs, or too many.
        self.assertEqual(detached(f"( {FITTED} ) > ~ x0", FITTING), [6, 2, 2, 2, 2, 2, 0, 0])
        self.assertEqual(detached(f"( {FITTED} ) > x6", FITTING), NOTHING)

    def test_60_signs_and_more(self):
        nineteen = " > ".join(["a"] * 10)
        self.assertEqual(detached("x > ~ x > x > x", nineteen)[0], 60)
        self.assertEqual(detached("x > ~ x > x > ~ x", nineteen), NOTHING)
        self.assertEqual(detached("x > y > x > x > x", nineteen), NOTHING)
        self.assertEqual(detached("x > ~ ( x > x > x )", nineteen)[0], 60)
        self.assertEqual(detached("x > x > x > x", nineteen)[0], 59)
        sixty = "axiom a : x > ~ x > x > x ; axiom b : " + nineteen + " ; axiom i : x > x ; "
        answers = ask(load(sixty + "row r : a, b ; row s : i, r ; row t : s, s ; row u : a, s ;"),
                      formula(3), formula(4), formula(5), formula(6))
        self.assertEqual(answers[1][0], 60)
        self.assertEqual(answers[2], answers[1])
        self.assertEqual(answers[3:], [NO_FORMULA, NO_FORMULA])

    def test_formulas_that_are_worked_out_nest_deep(self):
        denials = "~ " * 30
        text = f"axiom a : x > {denials}x ; axiom b : {denials}( {denials[:10]}x ) ; row r : a, b ; "
        self.assertEqual(ask(load(text), formula(2))[1], NO_FORMULA)
        text = f"axiom a : x > {denials}x ; axiom b : {denials[:58]}x ; row r : a, b ; goal {denials}x ; "
        answers = ask(load(text), formula(2), proves(2, 0))[1:]
        self.assertEqual(answers, [[60] + [2] * 59 + [0, 0], [0]])
        # An instance within an instance: implications nest on their first side, too.
        text = "axiom a : x > ( x > y ) > y ; axiom i : x ; row r0 : a, a ; " + \
               "".join(f"row r{n + 1} : a, r{n} ; " for n in range(20))
        deep = ask(load(text), *[formula(item) for item in range(2, 23)])[1:]
        self.assertEqual([answer[0] for answer in deep if answer != NO_FORMULA], list(range(11, 61, 4)))

    def test_formulas_that_double_again_and_again(self):
        # Two rows of nearly 60 signs each. Made to fit, y0 is x0 > x0, x1 is y0 > y0, y1 is x1 > x1,
        # and so on: nineteen doublings, of which what is detached, z, tells nothing.
        pairs = [f"x{number} > ( x{number} > x{number} )" for number in range(10)]
        text = (f"axiom a : v > ( ( x0 > x0 ) > {' > '.join(pairs[1:5])} > v ) > z ; "
                f"axiom b : {' > '.join(pairs[5:])} ; "
                f"axiom c : v > {' > '.join(pairs[:6])} > v ; "
                f"axiom d : {' > '.join(pairs[6:9])} > x9 ; "
                "row f : a, b ; row h : c, d ; row r : f, h ;")
        answers = ask(*([load(text), formula(4), formula(5), formula(6)] * 12))
        self.assertEqual(answers[1], numbers_of_long(f"( ( x0 > x0 ) > {' > '.join(pairs[1:])} ) > z"))
        self.assertEqual(answers[2], numbers_of_long(f"{' > '.join(pairs[:9])} > x9"))
        self.assertEqual([answer[0] for answer in answers[1:4]], [59, 55, -5])
        self.assertEqual(answers, answers[:4] * 12)

    def test_doubling_rows_until_there_are_too_many_signs(self):
        text = "axiom a : x > x > x ; axiom b : x ; axiom c : ~ x ; row r0 : a, c ; "
        text += "".join(f"row r{n + 1} : a, r{n} ; " for n in range(23))
        answers = ask(load(text), *[formula(item) for item in range(3, 27)])[1:]
        self.assertEqual([answer[0] for answer in answers[:4]], [5, 11, 23, 47])
        self.assertEqual(answers[4:], [NO_FORMULA] * 20)

    def test_by_chance_as_worked_out_in_another_way(self):
        chance = chance_of(1)
        kinds = {"nothing": 0, "something": 0}
        for round_number in range(1500):
            first = (">", some_tree(chance, chance.randrange(1, 16), 4), some_tree(chance, chance.randrange(1, 12), 4))
            second = some_tree(chance, chance.randrange(1, 16), 4)
            result = detached_slowly(first, second)
            kinds["nothing" if result is None else "something"] += 1
            expected = NOTHING if result is None else told(result)
            self.assertEqual(detached(written(first), written(second)), expected, (written(first), written(second)))
        self.assertGreater(min(kinds.values()), 300)

    def test_rows_by_chance_as_worked_out_in_another_way(self):
        chance = chance_of(2)
        starts = ["x > y > x", "( x > y > z ) > ( x > y ) > x > z", "( ~ x > ~ y ) > y > x", "x > ~ ~ x"]
        text = "".join(f"axiom a{number} : {start} ; " for number, start in enumerate(starts))
        for round_number in range(20):
            pairs = [(chance.randrange(number), chance.randrange(number)) for number in range(4, 28)]
            rows = "".join(f"row a{number + 4} : a{pair[0]}, a{pair[1]} ; " for number, pair in enumerate(pairs))
            answers = ask(load(text + rows), *[formula(item) for item in range(28)])[1:]
            trees = [None if answer == NO_FORMULA else tree_of(answer[1:]) for answer in answers]
            for number, pair in enumerate(pairs):
                expected = None
                if trees[pair[0]] is not None and trees[pair[1]] is not None:
                    expected = detached_slowly(trees[pair[0]], trees[pair[1]])
                self.assertEqual(answers[number + 4], NO_FORMULA if expected is None else told(expected))

    def test_what_is_detached_follows_and_nothing_more_general_does(self):
        # Of ways to put formulas for the unknowns so that both become the same, each leads to an
        # instance of what is detached.
        chance = chance_of(3)
        seen = 0
        for round_number in range(400):
            first = (">", some_tree(chance, 9, 3), some_tree(chance, 9, 3))
            second = some_tree(chance, 9, 3)
            answer = detached(written(first), written(second))
            found = fitted(renamed(first[1], "first"), renamed(second, "second"))
            if answer == NOTHING or found is None:
                continue
            more = {("first", 0): ("~", ("x", ("second", 1))), ("second", 0): ("x", ("first", 1))}
            way = put_in(renamed(first[2], "first"), found)
            self.assertTrue(is_instance(tree_of(told(way)[1:]), tree_of(answer[1:])))
            way = put_in(way, {name: tree for name, tree in more.items() if name not in found})
            self.assertTrue(is_instance(way, tree_of(answer[1:])))
            seen += 1
        self.assertGreater(seen, 100)

    def test_from_more_general_items_comes_what_is_more_general(self):
        chance = chance_of(5)
        seen = 0
        for round_number in range(1000):
            first = (">", some_tree(chance, 8, 3), some_tree(chance, 8, 3))
            second = some_tree(chance, 8, 3)
            put = {number: some_tree(chance, 3, 2) for number in range(3)}
            narrow = [instance_of(first, put), instance_of(second, put)]
            if max(signs(tree) for tree in narrow) > 38:
                continue
            less = detached(*[written(tree) for tree in narrow])
            if less == NOTHING or less[0] > 40:
                continue
            goal = written(tree_of(less[1:]))
            text = f"axiom a : {written(first)} ; axiom b : {written(second)} ; row r : a, b ; goal {goal} ;"
            self.assertEqual(ask(load(text), proves(2, 0))[1], [1], text)
            seen += 1
        self.assertGreater(seen, 60)

    def test_made_to_fit_they_are_an_instance_of_each_and_of_all_that_is_of_both(self):
        # From F > F and another formula comes what both become. Both are made from one formula, by
        # unknowns put in place of some of its parts, so that one is an instance of both.
        chance = chance_of(8)
        seen = 0
        for round_number in range(400):
            both = some_tree(chance, 12, 2)
            first, second = [made_more_general(both, chance, {}) for _ in range(2)]
            text = f"axiom a : ( {written(first)} ) > {written(first)} ; axiom b : {written(first)} ; " \
                   f"axiom c : {written(second)} ; row r : a, c ; goal {written(both)} ; "
            answer = ask(load(text), formula(3))[1]
            self.assertNotEqual(answer, NO_FORMULA, text)
            text += f"goal {written(tree_of(answer[1:]))} ;"
            calls = [proves(item, goal) for item in (1, 2, 3) for goal in (0, 1)]
            self.assertEqual(ask(load(text), *calls)[1:], [[1]] * 6, text)
            seen += first != second
        self.assertGreater(seen, 200)


def numbers_of_long(text):
    """A formula of more than 40 signs, told as numbers: read here, not by load."""
    words = text.split()

    def read_part():
        word = words.pop(0)
        if word != "(":
            return ("x", word)
        part = read_implication()
        words.pop(0)
        return part

    def read_implication():
        part = read_part()
        if words and words[0] == ">":
            words.pop(0)
            return (">", part, read_implication())
        return part
    return told(read_implication())


if __name__ == "__main__":
    unittest.main()
