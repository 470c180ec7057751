"""short: the shortened text's one form."""

import unittest

from helper import WORKED, Proof, as_form, ask, ask_last, form, load, random_proofs, short, short_form, shorten, shown

KS = "axiom k : x > y > x ; axiom s : ( x > y > z ) > ( x > y ) > x > z ; "
KS_FORM = "axiom k : x0 > x1 > x0 ;\naxiom s : ( x0 > x1 > x2 ) > ( x0 > x1 ) > x0 > x2 ;\n"


class Short(unittest.TestCase):
    def tells(self, text, wanted):
        before, told, after = ask(load(text), shown(), short(), shown())[1:]
        self.assertEqual(as_form(told), wanted)
        self.assertEqual(before, after)
        self.assertEqual(form(wanted), wanted)
        self.assertEqual(short_form(wanted), wanted)

    def test_without_rows(self):
        self.tells("axiom k : y ;", "axiom k : x0 ;\n")
        self.tells("axiom k:( y>y );goal ~ b>~ b;", "axiom k : x0 > x0 ;\ngoal ~ x0 > ~ x0 ;\n")

    def test_without_goals(self):
        self.tells(KS + "row a : s, k ; row i : a, k ;", KS_FORM)

    def test_a_goal_that_nothing_proves(self):
        self.tells(KS + "row a : s, k ; row i : a, k ; goal y ;", KS_FORM + "goal x0 ;\n")
        wanted = KS_FORM + "row a : s, k ;\nrow i : a, k ;\ngoal ~ x0 ;\ngoal x0 > x0 ;\n"
        self.tells(KS + "row a : s, k ; row i : a, k ; goal ~ y ; goal p > p ;", wanted)

    def test_a_goal_that_an_axiom_proves(self):
        self.tells(KS + "row a : s, k ; goal p > ~ q > p ;", KS_FORM + "goal x0 > ~ x1 > x0 ;\n")

    def test_axioms_that_nobody_needs_stay(self):
        text = "axiom n : ~ y ; axiom i : x > x ; axiom m : ~ ~ y ; goal p > p ; goal p > p ;"
        self.tells(text, "axiom n : ~ x0 ;\naxiom i : x0 > x0 ;\naxiom m : ~ ~ x0 ;\n" + "goal x0 > x0 ;\n" * 2)

    def test_rows_keep_their_names(self):
        text = KS + "row o : k, k ; row x7 : s, k ; row u : x7, x7 ; row I : x7, k ; row q : I, I ; goal p > p ;"
        self.tells(text, KS_FORM + "row x7 : s, k ;\nrow I : x7, k ;\ngoal x0 > x0 ;\n")

    def test_a_row_told_twice_has_the_first_name(self):
        text = KS + "row a : s, k ; row b : s, k ; row i : b, k ; row j : b, k ; row l : k, j ; goal p > q > q ;"
        self.tells(text, KS_FORM + "row a : s, k ;\nrow i : a, k ;\nrow l : k, i ;\ngoal x0 > x1 > x1 ;\n")

    def test_a_row_detached_from_one_item_twice(self):
        text = "axiom i : x > x ; axiom k : x > y > x ; row a : k, k ; goal p > q > r > q ;"
        wanted = "axiom i : x0 > x0 ;\naxiom k : x0 > x1 > x0 ;\nrow a : k, k ;\ngoal x0 > x1 > x2 > x1 ;\n"
        self.tells(text, wanted)

    def test_a_row_that_becomes_an_axiom(self):
        text = "axiom i : x > x ; axiom k : x > y > x ; row a : i, k ; row b : a, i ; row c : a, a ; goal q > p > p ;"
        wanted = "axiom i : x0 > x0 ;\naxiom k : x0 > x1 > x0 ;\nrow b : k, i ;\ngoal x0 > x1 > x1 ;\n"
        self.tells(text, wanted)

    def test_worked(self):
        rows = "row a : s, k ;\nrow i : a, k ;\nrow b : k, i ;\n"
        self.tells(WORKED, KS_FORM + rows + "goal x0 > x0 ;\ngoal x0 > x1 > x1 ;\n")

    def test_how_many_bytes(self):
        self.assertEqual(ask_last(load("axiom k : x ; row a : k, k ;"), short()), [15] + list(b"axiom k : x0 ;\n"))

    def test_24_rows_stay(self):
        rows = "row r0 : f, m ;\n" + "".join(f"row r{i + 1} : f, r{i} ;\n" for i in range(23))
        goal = "~ " * 24 + "( x0 > x0 )"
        text = "axiom f : x0 > ~ x0 ;\naxiom m : x0 > x0 ;\n" + rows + f"goal {goal} ;\n"
        self.tells(text, text)


class ManyTexts(unittest.TestCase):
    def test_many_texts(self):
        for proof in random_proofs(300):
            self.assertEqual(short_form(proof.text()), proof.shortened().text(), proof.text())

    def test_what_is_told_is_a_text_that_stays(self):
        for proof in random_proofs(200):
            first = ask(load(proof.text()), shorten(), short())
            text = as_form(first[2])
            loaded, form_told, numbers, again = ask(load(text), shown(), shorten(), short())
            self.assertEqual(loaded, [1, len(proof.axioms), first[1][0], len(proof.goals)], proof.text())
            self.assertEqual(as_form(form_told), text)
            self.assertEqual(as_form(again), text)
            self.assertEqual(numbers[0], numbers[1])
            self.assertEqual(numbers[2:4], [first[1][3]] * 2)
            self.assertEqual(numbers[4:], first[1][4:])

    def test_other_names(self):
        for proof in random_proofs(60):
            names = [chr(ord("z") - i % 26) + "9" * (i // 26) for i in range(len(proof.formulas))]
            named = Proof(proof.axioms, proof.rows, proof.goals, names)
            self.assertEqual(short_form(named.text()), named.shortened().text(), named.text())


if __name__ == "__main__":
    unittest.main()
