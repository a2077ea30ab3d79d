"""Formulas: what binds how, how they are numbered and told, and their one form."""

import unittest

from helper import (
    WORKED, ask, chance_of, fault, formula, load, numbers_of, one_form, proves, shown, some_tree, told, tree_of, written,
)

WORKED_FORM = """axiom k : x0 > x1 > x0 ;
axiom s : ( x0 > x1 > x2 ) > ( x0 > x1 ) > x0 > x2 ;
row a : s, k ;
row i : a, k ;
row b : k, i ;
goal x0 > x0 ;
goal x0 > x1 > x1 ;
goal x0 > x1 ;
"""


class Formulas(unittest.TestCase):
    def check_form(self, text, form):
        self.assertEqual(one_form(f"axiom k : {text} ;"), f"axiom k : {form} ;\n")
        self.assertEqual(one_form(f"axiom k : x ; goal {text} ;"), f"axiom k : x0 ;\ngoal {form} ;\n")

    def test_an_unknown_alone(self):
        for text in ("x", "y", "x1", "( x )", "( ( Z ) )"):
            self.assertEqual(numbers_of(text), [1, 0, 0])
            self.check_form(text, "x0")

    def test_implications_bind_to_the_right(self):
        right = [5, 1, 0, 0, 1, 0, 1, 0, 2]
        self.assertEqual(numbers_of("x > y > z"), right)
        self.assertEqual(numbers_of("x > ( y > z )"), right)
        self.assertEqual(numbers_of("( x > y ) > z"), [5, 1, 1, 0, 0, 0, 1, 0, 2])
        self.assertEqual(numbers_of("x > y > z > x"), [7, 1, 0, 0, 1, 0, 1, 1, 0, 2, 0, 0])
        self.assertEqual(numbers_of("x > ( y > z ) > x"), [7, 1, 0, 0, 1, 1, 0, 1, 0, 2, 0, 0])

    def test_a_denial_binds_its_part_alone(self):
        self.assertEqual(numbers_of("~ x"), [2, 2, 0, 0])
        self.assertEqual(numbers_of("~ ~ ~ x"), [4, 2, 2, 2, 0, 0])
        left = [4, 1, 2, 0, 0, 0, 1]
        self.assertEqual(numbers_of("~ x > y"), left)
        self.assertEqual(numbers_of("( ~ x ) > y"), left)
        self.assertEqual(numbers_of("~ ( x ) > y"), left)
        self.assertEqual(numbers_of("~ ( x > y )"), [4, 2, 1, 0, 0, 0, 1])
        self.assertEqual(numbers_of("~ ~ x > ~ ~ y"), [7, 1, 2, 2, 0, 0, 2, 2, 0, 1])
        self.assertEqual(numbers_of("~ ~ ( x > y ) > z"), [7, 1, 2, 2, 1, 0, 0, 0, 1, 0, 2])
        self.assertEqual(numbers_of("x > ~ y > z"), [6, 1, 0, 0, 1, 2, 0, 1, 0, 2])

    def test_brackets_within_brackets(self):
        self.assertEqual(numbers_of("( ( x > y ) > ( z ) ) > ( ( ~ x ) )"), [8, 1, 1, 1, 0, 0, 0, 1, 0, 2, 2, 0, 0])
        self.assertEqual(numbers_of("x > ( ( y > z ) > x ) > y"),
                         [9, 1, 0, 0, 1, 1, 1, 0, 1, 0, 2, 0, 0, 0, 1])
        self.assertEqual(numbers_of("( ~ ( ( x > y ) ) > z )"), [6, 1, 2, 1, 0, 0, 0, 1, 0, 2])

    def test_unknowns_are_numbered_as_they_come(self):
        self.assertEqual(numbers_of("b > a > b"), [5, 1, 0, 0, 1, 0, 1, 0, 0])
        self.assertEqual(numbers_of("x1 > x0"), [3, 1, 0, 0, 0, 1])
        self.assertEqual(numbers_of("( b > c ) > a > c"), [7, 1, 1, 0, 0, 0, 1, 1, 0, 2, 0, 1])
        self.assertEqual(numbers_of("x > X"), [3, 1, 0, 0, 0, 1])
        many = " > ".join(f"u{number}" for number in range(20, 0, -1))
        self.assertEqual(numbers_of(many)[-2:], [0, 19])
        self.check_form(many, " > ".join(f"x{number}" for number in range(20)))

    def test_unknowns_count_only_within_their_formula(self):
        text = "axiom k : x > y ; axiom l : y > x > y ; goal y > x ; goal x ;"
        self.assertEqual(one_form(text),
                         "axiom k : x0 > x1 ;\naxiom l : x0 > x1 > x0 ;\ngoal x0 > x1 ;\ngoal x0 ;\n")
        self.assertEqual(ask(load(text), formula(0), formula(1))[1:],
                         [[3, 1, 0, 0, 0, 1], [5, 1, 0, 0, 1, 0, 1, 0, 0]])

    def test_brackets_of_the_one_form(self):
        self.check_form("( x > y )", "x0 > x1")
        self.check_form("x > ( y > z )", "x0 > x1 > x2")
        self.check_form("( ( x > y ) ) > z", "( x0 > x1 ) > x2")
        self.check_form("( ~ x ) > ( ~ y )", "~ x0 > ~ x1")
        self.check_form("~ ( ~ ( x ) )", "~ ~ x0")
        self.check_form("~ ( x > y ) > z", "~ ( x0 > x1 ) > x2")
        self.check_form("~ ( ( x > y ) > z )", "~ ( ( x0 > x1 ) > x2 )")
        self.check_form("( ~ ( x > y > z ) ) > ( ( x > x ) > y )", "~ ( x0 > x1 > x2 ) > ( x0 > x0 ) > x1")
        self.check_form("x > ( ~ ( y > x ) )", "x0 > ~ ( x1 > x0 )")

    def test_blanks_of_the_one_form(self):
        text = "\n# a remark\naxiom  k:(x)>y;axiom\tl:~(x>y);row  r:k  ,  l;\n\nrow s:r,r;goal(x>y)>z;\n#"
        self.assertEqual(one_form(text), "axiom k : x0 > x1 ;\naxiom l : ~ ( x0 > x1 ) ;\nrow r : k, l ;\n"
                                         "row s : r, r ;\ngoal ( x0 > x1 ) > x2 ;\n")

    def test_the_one_form_of_the_worked_text(self):
        self.assertEqual(one_form(WORKED), WORKED_FORM)
        answer = ask(load(WORKED), shown())[1]
        self.assertEqual(answer, [len(WORKED_FORM)] + list(WORKED_FORM.encode("ascii")))

    def test_the_one_form_has_the_names_of_items_as_told(self):
        text = "axiom x0 : x0 ;\naxiom Axiom : x0 ;\naxiom abcdefghijklmno1 : x0 ;\nrow rows : x0, Axiom ;\n"
        self.assertEqual(one_form(text), text)

    def test_a_row_has_its_own_items_in_the_one_form(self):
        # The formulas of rows, or that they have none, are no part of it.
        text = "axiom a : ~ x0 ;\naxiom b : x0 > x1 ;\nrow r : a, b ;\nrow s : b, a ;\nrow t : r, s ;\n"
        self.assertEqual(one_form(text), text)

    def test_the_one_form_is_read_as_the_same_text(self):
        chance = chance_of(4)
        for round_number in range(60):
            trees = [some_tree(chance, chance.randrange(1, 36), 5) for _ in range(4)]
            texts = [written(tree, chance) for tree in trees]
            if any(fault(f"axiom k : {text} ;") for text in texts):
                continue
            text = (f"axiom k : {texts[0]} ; axiom l : {texts[1]} ; row r : k, l ; row q : l, k ; "
                    f"row u : r, q ; goal {texts[2]} ; goal {texts[3]} ;")
            form = one_form(text)
            self.assertEqual(one_form(form), form)
            asked = [formula(item) for item in range(5)]
            asked += [proves(item, goal) for item in range(5) for goal in range(2)]
            self.assertEqual(ask(load(text), *asked), ask(load(form), *asked))

    def test_trees_are_told_as_they_are_numbered(self):
        chance = chance_of(7)
        for round_number in range(200):
            tree = some_tree(chance, chance.randrange(1, 36), 4)
            text = written(tree, chance)
            if fault(f"axiom k : {text} ;") is not None:
                continue
            self.assertEqual(numbers_of(text), told(tree))
            self.assertEqual(one_form(f"axiom k : {text} ;"),
                             f"axiom k : {written(tree_of(told(tree)[1:]))} ;\n")

    def test_the_greatest_one_form_has_fewer_than_4096_bytes(self):
        deep = "( x0 > x1 > ( x2 > x3 ) > x4 > ( x5 > x6 ) > x7 > ( x8 > x9 ) > x10 ) > " \
               "~ ( x11 > x12 > ( x13 > x14 ) > x15 > x16 ) > ~ x17 > ~ x18"
        self.assertEqual(numbers_of(deep)[0], 40)
        names = [f"{letter * 14}{number}" for letter in "abc" for number in range(10, 20)]
        text = "".join(f"axiom {name} : {deep} ;\n" for name in names[:6])
        text += "".join(f"row {name} : {names[0]}, {names[5]} ;\n" for name in names[6:])
        text += f"goal {deep} ;\n" * 4
        self.assertEqual(one_form(text), text)
        self.assertLess(len(text), 4096)


if __name__ == "__main__":
    unittest.main()
