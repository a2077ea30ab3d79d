"""Texts and tokens: blanks, remarks, names, numbers, signs, the text's end, and fault 2."""

import unittest

from helper import WORKED, ask, fault, fault_at_mark, load, one_form

PLAIN = "axiom k : x > y ; row r : k, k ; goal x ;"
FORM = "axiom k : x0 > x1 ;\nrow r : k, k ;\ngoal x0 ;\n"
LONG = "abcdefghijklmno1"


class Tokens(unittest.TestCase):
    def check_fault(self, code, marked):
        text, expected = fault_at_mark(code, marked)
        self.assertEqual(fault(text), expected, marked)

    def test_blanks_may_stand_between_any_two_tokens_and_at_both_ends(self):
        for blank in (" ", "\t", "\n", " \t\n \n\t "):
            self.assertEqual(one_form(blank + PLAIN.replace(" ", blank) + blank), FORM)
            self.assertEqual(one_form(PLAIN.replace(",", blank + "," + blank)), FORM)

    def test_signs_need_no_blanks(self):
        self.assertEqual(one_form("axiom k:x>y;row r:k,k;goal x;"), FORM)
        self.assertEqual(one_form("axiom k:~(x>~y)>(x);"), "axiom k : ~ ( x0 > ~ x1 ) > x0 ;\n")

    def test_blanks_part_words(self):
        self.check_fault(3, "!axiomk : x ;")
        self.check_fault(3, "axiom k : x !y ;")
        self.check_fault(3, "axiom k !l : x ;")

    def test_other_bytes_are_no_blanks(self):
        for byte in (0, 11, 12, 13, 127, 128, 160, 255):
            data = list(b"axiom k : x ;") + [byte]
            self.assertEqual(fault(data), (2, 13))
            self.assertEqual(fault([byte] + data), (2, 0))

    def test_remarks_mean_nothing_and_part_tokens(self):
        self.assertEqual(one_form("#a\n" + PLAIN.replace(" ", "#b; !?\n") + "#c\n"), FORM)
        self.assertEqual(one_form("axiom#\nk#:\n: x > y#;\n;row r : k, k ; goal#x\nx ;"), FORM)
        self.assertEqual(one_form("axiom k : x # y ;\n> y ; row r : k, k ; goal x ;"), FORM)

    def test_a_remark_ends_before_the_next_line_feed_only(self):
        self.assertEqual(one_form("# axiom \t\r # ~ \n" + PLAIN), FORM)
        self.check_fault(3, "# " + PLAIN + "!")
        self.check_fault(3, "axiom k : x # ;\n!")
        self.assertEqual(fault(list(b"axiom k : x ; #\r goal ~")), None)

    def test_a_remark_may_go_to_the_texts_end(self):
        self.assertEqual(one_form(PLAIN + "# the end, goal x"), FORM)
        self.assertEqual(one_form(PLAIN + "#"), FORM)
        self.assertEqual(one_form(PLAIN + "#\n"), FORM)

    def test_a_remark_may_have_any_byte(self):
        others = [byte for byte in range(256) if byte != 10]
        self.assertEqual(one_form([35] + others + [10] + list(PLAIN.encode())), FORM)
        self.assertEqual(one_form(list(PLAIN.encode()) + [35] + others), FORM)

    def test_a_sign_begins_no_other_token(self):
        for byte in range(256):
            if chr(byte) in " \t\n#(),:;>~" or (byte < 128 and chr(byte).isalnum()):
                continue
            self.assertEqual(fault(list(b"axiom k : x ;\n") + [byte, 59]), (2, 14), byte)
            self.assertEqual(fault(list(b"axiom k") + [byte] + list(b" : x ;")), (2, 7), byte)

    def test_each_sign_is_a_token(self):
        for sign in "(),:;>~":
            if sign != ";":
                self.check_fault(3, "axiom k : x ; !" + sign)
            if sign not in "(~":
                self.check_fault(3, "axiom k : !" + sign)

    def test_names_of_letters_and_digits(self):
        for name in ("a", "z", "A", "Z", "x0", "a1b2", "Q9z", "zZ09aA"):
            text = f"axiom {name} : x ;\n"
            self.assertEqual(one_form(text), text.replace(": x", ": x0"))
            self.assertEqual(one_form(f"axiom k : {name} ;"), "axiom k : x0 ;\n")

    def test_a_name_of_16_bytes_and_of_17(self):
        self.assertEqual(len(LONG), 16)
        self.assertEqual(one_form(f"axiom {LONG} : x ;"), f"axiom {LONG} : x0 ;\n")
        self.assertEqual(one_form(f"axiom k : {LONG} ;"), "axiom k : x0 ;\n")
        self.check_fault(2, f"axiom !{LONG}p : x ;")
        self.check_fault(2, f"axiom !{LONG}7 : x ;")
        self.check_fault(2, f"axiom k : x > !{LONG}p ;")
        self.check_fault(2, f"axiom k : x ; !{'x' * 4000}")

    def test_names_differ_by_case_and_by_their_last_byte(self):
        text = f"axiom {LONG} : x0 ;\naxiom {LONG[:-1]}2 : x0 ;\naxiom k : x0 > x1 ;\naxiom K : x0 ;\n"
        self.assertEqual(one_form(text), text)

    def test_numbers_are_tokens_that_are_nowhere_allowed(self):
        for number in ("0", "1", "9", "10", "909", "999999999", "1000000000"):
            self.check_fault(3, f"axiom k : !{number} ;")
            self.check_fault(3, f"axiom !{number} : x ;")
            self.check_fault(3, f"!{number}")
            self.check_fault(3, f"axiom k : x ; row r : !{number}, k ;")
            self.check_fault(3, f"axiom k : x ; !{number}")

    def test_numbers_with_a_needless_zero(self):
        for number in ("00", "01", "007", "0000000000", "01000000000"):
            self.check_fault(2, f"axiom k : x ; !{number}")
            self.check_fault(2, f"axiom k : !{number} ;")

    def test_numbers_that_are_too_great(self):
        for number in ("1000000001", "1000000010", "2000000000", "9999999999", "10000000000", "9" * 4000):
            self.check_fault(2, f"axiom k : x ; !{number}")
            self.check_fault(2, f"axiom k : !{number}x ;")

    def test_a_number_ends_before_a_letter(self):
        self.check_fault(3, "axiom !0x : y ;")
        self.check_fault(3, "axiom k : x ; !1000000000a")
        self.check_fault(2, f"axiom k : x ; 12!{LONG}b")
        self.check_fault(2, "axiom k : x ; !01a")

    def test_axiom_row_and_goal_are_no_names(self):
        for word in ("axiom", "row", "goal"):
            self.check_fault(3, f"axiom !{word} : x ;")
            self.check_fault(3, f"axiom k : !{word} ;")
            self.check_fault(3, f"axiom k : x > !{word} ;")
            self.check_fault(3, f"axiom k : x ; row !{word} : k, k ;")
            self.check_fault(3, f"axiom k : x ; row r : !{word}, k ;")
            self.check_fault(3, f"axiom k : x ; row r : k, !{word} ;")
            for name in (word + "s", word.upper(), word[:-1], word + "1"):
                text = f"axiom {name} : x0 ;\nrow r : {name}, {name} ;\n"
                self.assertEqual(one_form(text), text)
                self.assertEqual(one_form(f"axiom k : {name} ;"), "axiom k : x0 ;\n")

    def test_fault_2_is_told_ahead_of_what_is_wrong_before_it(self):
        self.check_fault(2, "row row row ; ; !?")
        self.check_fault(2, "axiom k : x ; axiom k : x ; !00")
        self.check_fault(2, f"axiom k : {'~ ' * 50}x ; !$")
        self.check_fault(2, "!. 00")

    def test_the_texts_end_is_a_token(self):
        self.check_fault(3, "!")
        self.check_fault(3, "  \n !")
        self.check_fault(3, "# nothing!")
        for end in ("axiom", "axiom k", "axiom k :", "axiom k : x", "axiom k : x >", "axiom k : ( x", "axiom k : ~",
                    "axiom k : x ; row", "axiom k : x ; row r", "axiom k : x ; row r :", "axiom k : x ; row r : k",
                    "axiom k : x ; row r : k,", "axiom k : x ; row r : k, k", "axiom k : x ; goal",
                    "axiom k : x ; goal x"):
            self.check_fault(3, end + "!")
            self.check_fault(3, end + " \n!")
            self.check_fault(3, end + " # more !")

    def test_every_beginning_of_the_worked_text(self):
        right = [end for end in range(len(WORKED) + 1) if fault(WORKED[:end]) is None]
        ends = [at + 1 for at, sign in enumerate(WORKED) if sign == ";"]
        self.assertEqual(right, sorted(ends + [end + 1 for end in ends if end < len(WORKED)]))

    def test_load_of_all_blank_bytes(self):
        self.assertEqual(ask(load(" " * 4096)), [[0, 3, 4096]])
        self.assertEqual(ask(load("")), [[0, 3, 0]])


if __name__ == "__main__":
    unittest.main()
