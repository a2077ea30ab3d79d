"""Texts: how many of what there may be, each fault with its place, and which of two is told."""

import unittest

from helper import WORKED, ask, fault, fault_at_mark, formula, load, shown, written


def axioms(count):
    return "".join(f"axiom a{number} : x ; " for number in range(count))


def rows(count):
    return "".join(f"row r{number} : a0, a0 ; " for number in range(count))


def goals(count):
    return "goal x ; " * count


def chain(count):
    """An implication of so many unknowns, all the same: it has 2 * count - 1 signs."""
    return " > ".join(["x"] * count)


class Faults(unittest.TestCase):
    def check(self, code, marked):
        text, expected = fault_at_mark(code, marked)
        self.assertEqual(fault(text), expected, marked)

    def check_right(self, text, *counts):
        self.assertEqual(ask(load(text)), [[1] + list(counts)])

    def test_1_more_than_4096_bytes(self):
        self.check_right(axioms(1).ljust(4096), 1, 0, 0)
        for length in (4097, 4098, 8192):
            self.assertEqual(fault(axioms(1).ljust(length)), (1, 4096))

    def test_1_is_told_ahead_of_all_others(self):
        for wrong in ("?", "row", "axiom k : x ; axiom k : x ;", "axiom k : x ; row r : s, s ;", "~" * 60):
            self.assertEqual(fault(wrong.ljust(4097)), (1, 4096))
        self.assertEqual(fault([0] * 4097), (1, 4096))
        self.assertEqual(fault([255] * 8192), (1, 4096))
        self.assertEqual(fault("?".ljust(4096)), (2, 0))

    def test_3_at_the_first_token_that_is_not_allowed_in_an_axiom(self):
        for marked in ("!k : x ;", "!: x ;", "!; axiom", "!goal x ;", "!row r : k, k ;", "axiom !: x ;",
                       "axiom !axiom : x ;", "axiom k !; x ;", "axiom k !, x ;", "axiom k : !;", "axiom k : !>",
                       "axiom k : !) ;", "axiom k : ( !) ;", "axiom k : !: x ;", "axiom k : x !: ;",
                       "axiom k : x !~ y ;", "axiom k : x !( y ) ;", "axiom k : x !) ;", "axiom k : x > !;",
                       "axiom k : x > !> y ;", "axiom k : ~ !;", "axiom k : ~ !> x ;", "axiom k : ~ !) ;",
                       "axiom k : ( x !;", "axiom k : ( x > !) ;", "axiom k : ( x ) !) ;", "axiom k : ( x ) !x ;",
                       "axiom k : ( ( x ) !;", "axiom k : x !, y ;", "axiom k : x !goal ;", "axiom k : x !axiom",
                       "axiom k : ( x ) > ( y !; )", "axiom k : ( x ) > y !) ;", "axiom k : ( x > y ) !( z ) ;"):
            self.check(3, marked)

    def test_3_in_rows_and_goals(self):
        for marked in ("row !: a0", "row !; ", "row !row : a0, a0 ;", "row r !a0, a0 ;", "row r !, a0 ;",
                       "row r : !, a0 ;", "row r : !; ", "row r : a0 !a0 ;", "row r : a0 !; ", "row r : a0 !> a0 ;",
                       "row r : a0, !; ", "row r : a0, !, a0 ;", "row r : !( a0 ), a0 ;", "row r : !~ a0, a0 ;",
                       "row r : a0, a0 !, a0 ;", "row r : a0, a0 !row", "row r : a0, a0 !a0 ;", "goal !;",
                       "goal !: x ;", "goal !goal x ;", "goal k !: x ;", "goal x !goal x ;", "goal x !) ;",
                       "goal ( x !; ) ;", "!x ;", "!; ", "!, ", "!( x ) ;"):
            self.check(3, axioms(1) + marked)

    def test_3_where_an_axiom_a_row_or_a_goal_comes_too_late(self):
        self.check(3, axioms(1) + rows(1) + "!axiom k : x ;")
        self.check(3, axioms(1) + goals(1) + "!axiom k : x ;")
        self.check(3, axioms(1) + goals(1) + "!row r : a0, a0 ;")
        self.check(3, axioms(1) + rows(1) + goals(1) + "!row r : a0, a0 ;")
        self.check(3, axioms(1) + goals(1) + "!x ;")

    def test_3_is_less_than_4(self):
        self.check(3, axioms(6) + rows(1) + "!axiom k : x ;")
        self.check(3, axioms(6) + goals(1) + "!axiom k : x ;")
        self.check(3, axioms(1) + rows(24) + goals(1) + "!row r : a0, a0 ;")
        self.check(3, axioms(6) + rows(24) + goals(4) + "!row r : a0, a0 ;")
        self.check(3, axioms(6) + rows(24) + goals(4) + "!axiom k : x ;")

    def test_4_a_seventh_axiom(self):
        self.check_right(axioms(6), 6, 0, 0)
        self.check(4, axioms(6) + "!axiom")
        self.check(4, axioms(6) + "!axiom a0 : , ;")
        self.check(4, axioms(6) + "!axiom k : x ; " + rows(1))

    def test_4_a_twenty_fifth_row(self):
        self.check_right(axioms(1) + rows(24), 1, 24, 0)
        self.check_right(axioms(6) + rows(24) + goals(4), 6, 24, 4)
        self.check(4, axioms(1) + rows(24) + "!row")
        self.check(4, axioms(6) + rows(24) + "!row r0 : a0, a0 ;")

    def test_4_a_fifth_goal(self):
        self.check_right(axioms(1) + goals(4), 1, 0, 4)
        self.check(4, axioms(1) + goals(4) + "!goal")
        self.check(4, axioms(1) + rows(24) + goals(4) + "!goal x ;")

    def test_5_a_new_name_that_an_item_has(self):
        self.check(5, "axiom k : x ; axiom !k : x ;")
        self.check(5, "axiom k : x ; axiom l : x ; axiom !k")
        self.check(5, axioms(6) + "row !a5 : a0, a0 ;")
        self.check(5, axioms(1) + rows(3) + "row !r0 : r0, r1 ;")
        self.check(5, axioms(1) + rows(3) + "row !r2")
        self.check(5, axioms(1) + "row !a0 ;")

    def test_5_is_not_for_unknowns(self):
        self.check_right("axiom k : k > k ; axiom x : x ; row r : k, x ; goal r > k > x ;", 2, 1, 1)

    def test_8_a_name_that_no_item_before_has(self):
        self.check(8, axioms(1) + "row r : !b, a0 ;")
        self.check(8, axioms(1) + "row r : a0, !b ;")
        self.check(8, axioms(1) + "row r : !x, a0 ;")
        self.check(8, axioms(1) + "row r : !r, a0 ;")
        self.check(8, axioms(1) + "row r : a0, !r ;")
        self.check(8, axioms(1) + "row r : !s, a0 ; row s : a0, a0 ;")
        self.check(8, axioms(1) + "row r : a0, !A0 ;")
        self.check(8, axioms(1) + "row r : !b")
        self.check(8, axioms(1) + "row r : !b c")
        self.check_right(axioms(1) + rows(2) + "row s : r0, r1 ; row t : s, a0 ;", 1, 4, 0)

    def test_9_more_than_40_signs(self):
        self.check_right(f"axiom k : ~ {chain(20)} ; goal ~ {chain(20)} ;", 1, 0, 1)
        self.check_right(f"axiom k : {'~ ' * 39} x ;", 1, 0, 0)
        self.check(9, f"axiom k : !{chain(21)} ;")
        self.check(9, f"axiom k : !~ ~ {chain(20)} ;")
        self.check(9, f"axiom k : !{'~ ' * 40} x ;")
        self.check(9, f"axiom k : !( {chain(21)} ) ; ")
        self.check(9, f"axiom k : !( x > y ) > {chain(19)} ;")
        self.check(9, axioms(2) + f"goal x ; goal # here\n!{chain(30)} ; goal x ;")

    def test_9_brackets_are_no_signs(self):
        self.check_right(f"axiom k : ( ( ( ( ~ ( x ) ) ) ) ) > ( ( {chain(19)} ) ) ;", 1, 0, 0)
        self.check_right(f"axiom k : {'( x ) > ' * 19}( ( ~ x ) ) ;", 1, 0, 0)
        self.check(9, f"axiom k : !{'( x ) > ' * 19}( ( ~ ~ x ) ) ;")

    def test_9_only_when_its_semicolon_has_been_read(self):
        for end in ("!", "!) ;", "> !;", "!axiom", "!x ;", "> ( x !; )", "!, x ;"):
            self.check(3, f"axiom k : {chain(30)} {end}")
        self.check(10, f"axiom k : {chain(39)} > ( !( x ) ) ;")
        self.check(9, f"axiom k : !{chain(21)} ; row row")
        self.check(9, f"axiom k : !{chain(21)} ; axiom k : {'( ' * 41}")

    def test_10_within_39_others_and_within_40(self):
        self.check_right(f"axiom k : {'( ' * 39}~ x{' )' * 39} ;", 1, 0, 0)
        self.check_right(f"axiom k : {'( ' * 39}( x ){' )' * 39} ;", 1, 0, 0)
        self.check_right(f"axiom k : {'( ' * 39}x > x{' )' * 39} ;", 1, 0, 0)
        self.check_right(f"axiom k : {'~ ' * 39}( x ) ;", 1, 0, 0)
        # Within 39 others is not too deep, but such a formula has 41 signs.
        self.check(9, f"axiom k : !{'~ ' * 39}~ x ;")
        for around in ("( ", "~ "):
            self.check(10, f"axiom k : {around * 40}!~ x ;")
            self.check(10, f"axiom k : {around * 40}!( x")
        self.check(10, f"axiom k : {'( ' * 40}x !> x ;")

    def test_10_within_implications(self):
        # 39 of > are told, the fortieth is within all of them; such a formula has too many signs, too.
        self.check(9, f"axiom k : !{chain(41)} ;")
        self.check(10, f"axiom k : {chain(41)} !> x ;")
        self.check(10, f"axiom k : {chain(40)} > x !> x ;")
        self.check(10, f"axiom k : {'x > ' * 40}!~ x ;")
        self.check(10, f"axiom k : {'x > ' * 40}!( x ) ;")
        self.check(9, f"axiom k : !{'x > ' * 39}( x ) ;")
        self.check(9, f"axiom k : !{'x > ' * 39}~ x ;")

    def test_10_mixed(self):
        self.check(10, f"axiom k : {'( ~ ' * 20}!( x ) ;")
        self.check(10, f"axiom k : {'( ~ ' * 20}!~ x ;")
        self.check_right(f"axiom k : {'( ~ ' * 20}x{' )' * 20} ;", 1, 0, 0)
        self.check(10, f"axiom k : {'( x > ' * 20}!( y ) ;")
        self.check(10, f"axiom k : {'( x > ' * 20}y !> z ;")
        self.check_right(f"axiom k : {'( ' * 39}x > y{' )' * 39} ;", 1, 0, 0)
        self.check(10, f"axiom k : {'( ' * 39}x > !( y ) ;")
        self.check(10, axioms(1) + f"goal x > {'~ ( ' * 19}~ !~ x ;")

    def test_10_what_has_ended_does_not_count(self):
        # ~ ends with its part, so it is not around what comes behind.
        self.check_right(f"axiom k : {'~ ' * 30}x > {'( ' * 39}x{' )' * 39} ;", 1, 0, 0)
        self.check(10, f"axiom k : {'~ ' * 30}x > {'( ' * 39}!( x ) ;")
        self.check_right(f"axiom k : {'~ ' * 20}( x ) > {'~ ' * 15}x ;", 1, 0, 0)
        # ( ends with its ), and what is within it, too.
        self.check_right(f"axiom k : {'( ' * 40}x{' )' * 40} > {'( ' * 39}x{' )' * 39} ;", 1, 0, 0)
        self.check(10, f"axiom k : {'( ' * 40}x{' )' * 40} > {'( ' * 39}!( x ;")
        # > has not ended while more comes within the same brackets.
        self.check_right(f"axiom k : ( x > x > x > x ) > {'( ' * 39}x{' )' * 39} ;", 1, 0, 0)
        self.check(10, f"axiom k : ( x > x > x > x ) > {'( ' * 39}!( x ;")
        self.check_right(f"axiom k : x > ( x > x ) > {'( ' * 38}x{' )' * 38} ;", 1, 0, 0)
        self.check(10, f"axiom k : x > ( x > x ) > {'( ' * 38}!( x ;")
        # ~ ends with the bracket that is its part.
        self.check_right(f"axiom k : ~ ~ ( ~ x ) > {'( ' * 39}x{' )' * 39} ;", 1, 0, 0)
        self.check(10, f"axiom k : ~ ~ ( ~ x ) > {'( ' * 39}!~ x ;")
        self.check(10, f"axiom k : ~ ~ ( ~ x > {'( ' * 36}!( x ;")
        # A formula does not count for the next one.
        self.check_right(f"axiom k : {'~ ' * 39}x ; goal {'( ' * 40}x{' )' * 40} ; goal {'~ ' * 39}x ;", 1, 0, 2)

    def test_10_is_told_after_3_at_the_same_token(self):
        self.check(3, f"axiom k : {'( ' * 40}x !( y ) ;")
        self.check(3, f"axiom k : {'( ' * 40}x !~ y ;")
        self.check(3, f"axiom k : {'( ' * 40}!> y ;")
        self.check(3, f"axiom k : {'~ ' * 40}!> y ;")

    def test_of_two_faults_the_one_that_comes_first(self):
        self.check(5, f"axiom k : x ; axiom !k : {'~ ' * 50}")
        self.check(10, f"axiom k : {'~ ' * 40}!~ x ; axiom k : x ;")
        self.check(8, axioms(1) + "row r : !b, c ; row r : a0, a0 ;")
        self.check(9, axioms(1) + f"goal !{chain(21)} ; goal {'~ ' * 41}x ;")
        self.check(4, axioms(6) + "!axiom a0 : x ; axiom")
        self.check(3, "axiom k : x !y ; axiom k : x ;")

    def test_a_load_that_fails_leaves_the_text_that_is_held(self):
        form = ask(load(WORKED), shown())[1]
        wrong = ("", "?", "row", WORKED + " goal x ; goal x ;", "axiom k : x ; axiom k : x ;",
                 "axiom k : x ; row r : s, k ;", f"axiom k : {chain(21)} ;", f"axiom k : {'~ ' * 41}x ;",
                 WORKED.ljust(4097), "axiom k : x ; row r : k, k ; goal y")
        for text in wrong:
            answers = ask(load(WORKED), load(text), shown(), formula(4), formula(5))
            self.assertEqual(answers[1][0], 0)
            self.assertEqual(answers[2], form)
            self.assertEqual(answers[3], [5, 1, 0, 0, 1, 0, 1, 0, 1])
            self.assertEqual(answers[4], [-2])

    def test_a_load_that_fails_first_leaves_no_text(self):
        self.assertEqual(ask(load("?"), shown(), formula(0)), [[0, 2, 0], [-1], [-1]])

    def test_a_load_that_is_right_takes_the_place_of_the_text(self):
        answers = ask(load(WORKED), load("axiom k : x ;"), shown(), formula(1), formula(0))
        self.assertEqual(bytes(answers[2][1:]).decode(), "axiom k : x0 ;\n")
        self.assertEqual(answers[3:], [[-2], [1, 0, 0]])

    def test_the_places_in_a_text_of_several_rows(self):
        self.check(3, "# first\n\taxiom k : x ;\n\n# second\n  !k : y ;")
        self.check(8, "axiom k:x;#k\nrow r:k,!s;")

    def test_written_is_right_for_the_tests(self):
        self.assertEqual(written((">", (">", ("x", 0), ("x", 1)), ("~", (">", ("x", 0), ("x", 0))))),
                         "( x0 > x1 ) > ~ ( x0 > x0 )")


if __name__ == "__main__":
    unittest.main()
