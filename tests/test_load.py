"""load: texts that are right, up to every edge."""

import unittest

from helper import ask, ask_last, form, load, shown


def implications(count):
    """A formula with so many unknowns, and one > fewer."""
    return " > ".join(["x"] * count)


class RightTexts(unittest.TestCase):
    def right(self, text, axioms, rows=0, goals=0):
        self.assertEqual(ask_last(load(text)), [1, axioms, rows, goals])

    def test_how_many_axioms(self):
        for count in range(1, 7):
            self.right("".join(f"axiom k{i} : x ;" for i in range(count)), count)

    def test_how_many_rows(self):
        for count in range(25):
            rows = "".join(f"row r{i} : k, k ;" for i in range(count))
            self.right("axiom k : x > y > x ;" + rows, 1, count)

    def test_how_many_goals(self):
        for count in range(5):
            self.right("axiom k : x ;" + "goal x > x ;" * count, 1, 0, count)

    def test_all_at_their_most(self):
        axioms = "".join(f"axiom a{i} : x > y > x ;" for i in range(6))
        rows = "".join(f"row r{i} : a{i % 6}, a0 ;" for i in range(24))
        self.right(axioms + rows + "goal x > x ;" * 4, 6, 24, 4)

    def test_rows_of_axioms_and_of_earlier_rows(self):
        self.right("axiom k : x > y > x ; row a : k, k ; row b : a, k ; row c : k, b ; row d : b, c ; row e : d, d ;", 1, 5)

    def test_rows_without_a_formula_are_right(self):
        self.right("axiom k : ~ x ; row a : k, k ; row b : a, a ;", 1, 2)

    def test_4096_bytes(self):
        text = "axiom k : x ;"
        self.right(text + " " * (4096 - len(text)), 1)
        self.right("#" * (4095 - len(text)) + "\n" + text, 1)
        name = "abcdefghijklmnop"
        rows = "".join(f"row r{i} : {name}, {name} ;" for i in range(24))
        text = f"axiom {name} : x ;" + rows
        self.right(text + " " * (4096 - len(text)), 1, 24)

    def test_names_of_16_bytes(self):
        self.right("axiom abcdefghijklmnop : ABCDEFGHIJKLMNOP ;", 1)
        self.right("axiom a234567890123456 : x ; row ZYXWVUTSRQPONMLK : a234567890123456, a234567890123456 ;", 1, 1)
        self.assertEqual(form("axiom a234567890123456 : x ;"), "axiom a234567890123456 : x0 ;\n")

    def test_names_of_one_byte(self):
        for name in "azAZ":
            self.right(f"axiom {name} : {name} ; row q : {name}, {name} ;", 1, 1)

    def test_names_near_the_words(self):
        for name in ["axioms", "Axiom", "AXIOM", "rows", "Row", "goals", "Goal", "axiom1", "row0", "ax", "axio", "goa"]:
            self.right(f"axiom {name} : {name} ; goal {name} ;", 1, 0, 1)

    def test_names_that_differ_by_case_or_by_an_end(self):
        self.right("axiom k : x ; axiom K : x ; axiom kk : x ; axiom k1 : x ; row k11 : k, K ;", 4, 1)

    def test_unknowns_may_have_the_names_of_items(self):
        self.right("axiom k : k > r > k ; row r : k, k ; goal r > k > r ;", 1, 1, 1)

    def test_no_blanks_where_none_are_needed(self):
        self.right("axiom k:x>y>x;axiom s:(x>y>z)>(x>y)>x>z;row a:s,k;goal~x>y;goal(x);", 2, 1, 2)

    def test_blanks_and_remarks(self):
        between = [" ", "\n", "\t", " \t\n \n", "#\n", "# a remark ; ( 007\n", "##\n\t#x\n"]
        words = ["axiom", "k", ":", "(", "x", ">", "~", "y", ")", ">", "x", ";", "row", "a", ":", "k", ",", "k", ";"]
        words = words + ["goal", "x", ";"]
        for blank in between:
            self.right(blank + blank.join(words) + blank, 1, 1, 1)

    def test_remarks_hold_any_byte(self):
        every = [byte for byte in range(256) if byte != 10]
        text = list(b"axiom k #") + every + [10] + list(b": x ;")
        self.right(text, 1)

    def test_a_remark_parts_tokens(self):
        self.assertEqual(form("axiom#\nk:x#\n;row#\na:k#\n,#\nk;"), "axiom k : x0 ;\nrow a : k, k ;\n")

    def test_a_remark_ends_with_the_text(self):
        self.right("axiom k : x ;# the end", 1)
        self.right("axiom k : x ;#", 1)
        self.right("axiom k : x ; row a : k, k ; # axiom", 1, 1)

    def test_a_remark_in_front(self):
        self.right("# about this text\naxiom k : x ;", 1)

    def test_40_signs(self):
        self.right("axiom k : ~ " + implications(20) + " ; goal ~ " + implications(20) + ";", 1, 0, 1)
        self.right("axiom k : " + "~ " * 39 + "x ;", 1)
        self.right("axiom k : (((" + implications(20) + ") ) ) ;", 1)

    def test_within_39_others(self):
        self.right("axiom k : " + "( " * 40 + "x" + " )" * 40 + " ;", 1)
        self.right("axiom k : " + "( " * 39 + "x > y" + " )" * 39 + " ;", 1)
        self.right("axiom k : " + "( " * 39 + "~ x" + " )" * 39 + " ;", 1)
        self.right("axiom k : " + "~ " * 38 + "( ~ x ) ;", 1)
        self.right("axiom k : x ; goal " + "~ ( " * 20 + "x" + " )" * 20 + " ;", 1, 0, 1)
        self.right("axiom k : " + "x > ( ( " * 13 + "~ y" + " )" * 26 + " ;", 1)
        self.right("axiom k : " + "x > ( ( " * 13 + "y > z" + " )" * 26 + " ;", 1)

    def test_what_has_ended_isnt_round_what_follows(self):
        deep = "( " * 40 + "x" + " )" * 40
        self.right(f"axiom k : {deep} ; goal {deep} ;", 1, 0, 1)
        self.right(f"axiom k : {deep} > y ;", 1)
        self.right(f"axiom k : {deep[2:-2]} > y > {deep[4:-4]} ;", 1)
        self.right("axiom k : " + "~ " * 20 + "x > " + "~ " * 17 + "y ;", 1)
        inner = "( " * 19 + "x > y" + " )" * 19
        self.right(f"axiom k : ~ ~ {inner} > ~ {inner} > {inner} > ( {inner} ) ;", 1)


class Brackets(unittest.TestCase):
    def test_more_than_needed(self):
        self.assertEqual(form("axiom k : ( ( x ) > ( ( y > ( x ) ) ) ) ;"), "axiom k : x0 > x1 > x0 ;\n")

    def test_how_far_a_denial_goes(self):
        self.assertEqual(form("axiom k : ~ x > y ;"), form("axiom k : ( ~ x ) > y ;"))
        self.assertNotEqual(form("axiom k : ~ x > y ;"), form("axiom k : ~ ( x > y ) ;"))

    def test_how_implications_stand_together(self):
        self.assertEqual(form("axiom k : x > y > z ;"), form("axiom k : x > ( y > z ) ;"))
        self.assertNotEqual(form("axiom k : x > y > z ;"), form("axiom k : ( x > y ) > z ;"))


class Again(unittest.TestCase):
    def test_a_second_right_text_is_held(self):
        told = ask(load("axiom k : x ;"), load("axiom n : ~ x ; goal x ;"), shown())
        self.assertEqual(told[:2], [[1, 1, 0, 0], [1, 1, 0, 1]])
        self.assertEqual(bytes(told[2][1:]), b"axiom n : ~ x0 ;\ngoal x0 ;\n")

    def test_the_same_text_again(self):
        self.assertEqual(ask(load("axiom k : x ; row a : k, k ;"), load("axiom k : x ; row a : k, k ;")), [[1, 1, 1, 0]] * 2)


if __name__ == "__main__":
    unittest.main()
