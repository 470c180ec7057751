"""shorten: the rows of the shortened text."""

import unittest

from helper import WORKED, ask, ask_last, general, load, random_proofs, shorten, shown

KS = "axiom k : x > y > x ; axiom s : ( x > y > z ) > ( x > y ) > x > z ; "


class Shorten(unittest.TestCase):
    def shortens(self, text, wanted):
        before, told, after = ask(load(text), shown(), shorten(), shown())[1:]
        self.assertEqual(told, wanted)
        self.assertEqual(before, after)

    def test_without_rows(self):
        self.shortens("axiom k : x ;", [0, 0, 0, 0])
        self.shortens("axiom k : x > x ; goal ~ x > ~ x ; goal ~ x ;", [0, 0, 0, 0])

    def test_without_goals(self):
        self.shortens(KS + "row a : s, k ; row i : a, k ;", [0, 2, 0, 0])

    def test_a_goal_that_nothing_proves(self):
        self.shortens(KS + "row a : s, k ; row i : a, k ; goal x ;", [0, 2, 0, 0])
        self.shortens(KS + "row a : s, k ; row i : a, k ; goal ~ x ; goal p > p ;", [2, 2, 2, 2, 1, 0, 2, 0])

    def test_a_goal_that_an_axiom_proves(self):
        self.shortens(KS + "row a : s, k ; row i : a, k ; goal p > ~ q > p ;", [0, 2, 0, 0])

    def test_rows_that_nobody_needs(self):
        text = KS + "row o : k, k ; row a : s, k ; row u : a, a ; row i : a, k ; row q : i, i ; goal p > p ;"
        self.shortens(text, [2, 5, 2, 2, 1, 0, 2, 0])

    def test_rows_told_twice(self):
        text = KS + "row a : s, k ; row b : s, k ; row i : b, k ; row j : a, k ; goal p > p ;"
        self.shortens(text, [2, 4, 2, 2, 1, 0, 2, 0])

    def test_one_target_for_two_goals(self):
        text = KS + "row a : s, k ; row i : a, k ; goal p > p ; goal ~ p > ~ p ;"
        self.shortens(text, [2, 2, 4, 4, 1, 0, 2, 0])
        text = KS + "row a : s, k ; row i : a, k ; goal p > p ; goal p > p ; goal p > p ; goal p > p ;"
        self.shortens(text, [2, 2, 8, 8, 1, 0, 2, 0])

    def test_two_targets(self):
        text = KS + "row a : s, k ; row i : a, k ; goal p > p ; goal ( p > q ) > p > p ;"
        self.shortens(text, [2, 2, 3, 3, 1, 0, 2, 0])

    def test_a_row_that_becomes_an_axiom(self):
        text = "axiom i : x > x ; axiom k : x > y > x ; row a : i, k ; row b : a, i ; row c : a, a ; goal q > p > p ;"
        self.shortens(text, [1, 3, 2, 1, 1, 0])

    def test_the_target_is_the_first_item_that_proves(self):
        text = "axiom i : x > x ; axiom k : x > y > x ; row b : k, k ; row c : k, i ; row d : i, c ; goal q > p > p ;"
        self.shortens(text, [1, 3, 1, 1, 1, 0])
        text = "axiom u : x > x > x ; axiom i : x > x ; axiom k : x > y > x ; row c : k, i ; goal p > p > p ;"
        self.shortens(text, [0, 1, 0, 0])

    def test_a_row_that_becomes_nothing(self):
        text = "axiom n : ~ x ; axiom k : x > y > x ; row a : n, k ; row b : a, k ; row c : k, n ; goal p > ~ q ;"
        self.shortens(text, [1, 3, 1, 1, 1, 0])

    def test_a_row_that_has_a_formula_only_when_merged(self):
        # r has the formula ~ a > ~ a, an instance of the axiom m, which takes its place below.
        text = "axiom f : ( x > y ) > ~ x > ~ x ; axiom m : x > x ; axiom g : ( ( p > q ) > p > q ) > p > q ; "
        text = text + "row r : f, m ; row t : g, r ; goal p > q ;"
        told = ask(load(text), general(4), shorten())
        self.assertEqual(told[1:], [[-5], [1, 2, 0, 1, 2, 1]])

    def test_a_row_that_is_more_general_when_merged(self):
        text = KS + "row a : s, k ; row i : a, k ; row j : a, a ; row b : k, j ; goal q > p > p ;"
        self.shortens(text, [3, 4, 0, 3, 1, 0, 2, 0, 0, 3])
        # The row b's own formula doesn't prove the goal.
        told = ask(load(KS + "axiom g : q > p > p ; row a : s, k ; row j : a, a ; row b : k, j ;"), general(2), general(5))
        self.assertEqual(told[1:], [[2, 1], [2, 1]])

    def test_shorter_trees(self):
        text = KS + "row a : s, k ; row i : a, k ; row j : i, i ; row l : j, j ; row b : k, l ; goal q > p > p ;"
        self.shortens(text, [3, 5, 12, 3, 1, 0, 2, 0, 0, 3])

    def test_worked(self):
        self.shortens(WORKED, [3, 6, 2, 5, 1, 0, 2, 0, 0, 3])

    def test_a_formula_alike_to_an_axiom(self):
        text = "axiom k : x > y > x ; axiom i : x > x ; row a : i, k ; row b : a, i ; goal q > p > p ;"
        self.shortens(text, [1, 2, 2, 1, 0, 1])

    def test_a_later_row_more_general_than_an_earlier_one(self):
        text = "axiom e : ~ x > ~ x ; axiom k : x > y > x ; axiom s : ( x > y > z ) > ( x > y ) > x > z ; "
        text = text + "row a : s, k ; row t : k, e ; row i : a, k ; row v : k, i ; goal p > ~ q > ~ q ; goal p > q > q ;"
        self.shortens(text, [4, 4, 4, 4, 2, 1, 1, 0, 3, 1, 1, 5])

    def test_the_longest_trees(self):
        rows = "row a : s, k ; row r0 : a, k ; " + "".join(f"row r{i + 1} : r{i}, r{i} ; " for i in range(21))
        text = KS + rows + "row b : k, r21 ; goal q > p > p ;"
        self.shortens(text, [3, 24, 3 * 2**21, 3, 1, 0, 2, 0, 0, 3])
        self.shortens(text + "goal p > q > q ;", [3, 24, 6 * 2**21, 6, 1, 0, 2, 0, 0, 3])


class ManyTexts(unittest.TestCase):
    def test_many_texts(self):
        for proof in random_proofs(400):
            self.assertEqual(ask_last(load(proof.text()), shorten()), proof.shorten_answer(), proof.text())


if __name__ == "__main__":
    unittest.main()
