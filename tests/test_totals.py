"""totals: the goals' targets, the rows that they need, and their steps as trees."""

import unittest

from helper import WORKED, ask, ask_last, load, random_proofs, totals

KS = "axiom k : x > y > x ; axiom s : ( x > y > z ) > ( x > y ) > x > z ; "
AI = "row a : s, k ; row i : a, k ; "


class Totals(unittest.TestCase):
    def tells(self, text, wanted):
        self.assertEqual(ask_last(load(text), totals()), wanted)

    def test_of_the_document(self):
        self.tells(WORKED, [1, 2, 2])

    def test_no_goals(self):
        self.tells("axiom k : x ;", [0, 0, 0])
        self.tells(KS + AI, [0, 0, 0])

    def test_goals_without_a_target(self):
        self.tells(KS + AI + "goal p ;", [0, 0, 0])
        self.tells(KS + AI + "goal p ; goal ~ p ; goal p > q ; goal ~ p > p ;", [0, 0, 0])
        self.tells(KS + AI + "goal ~ p ; goal p > p ;", [1, 2, 2])

    def test_one_target_for_two_goals(self):
        self.tells(KS + AI + "goal p > p ; goal ~ p > ~ p ;", [2, 2, 4])
        self.tells(KS + AI + "goal p > p ; goal p > p ; goal p > p ; goal p > p ;", [4, 2, 8])

    def test_a_target_that_is_an_axiom(self):
        self.tells(KS + AI + "goal p > q > p ;", [1, 0, 0])
        self.tells(KS + AI + "goal p > q > p ; goal p > p > p ; goal p > p ;", [3, 2, 2])
        self.tells("axiom k : x ; row a : k, k ; goal ~ p ; goal q ;", [2, 0, 0])

    def test_the_first_item_that_proves_is_the_target(self):
        text = KS + AI + "row j : i, i ; row l : j, j ; goal p > p ;"
        self.tells(text, [1, 2, 2])

    def test_targets_that_need_some_rows_together(self):
        self.tells(KS + AI + "goal p > p ; goal ( p > q ) > p > p ;", [2, 2, 3])
        self.tells(KS + AI + "row b : k, i ; goal q > p > p ; goal p > p ;", [2, 3, 5])

    def test_the_text_itself_counts_not_the_shortened_one(self):
        text = KS + AI + "row j : i, i ; row l : j, j ; row b : k, l ; goal q > p > p ;"
        self.tells(text, [1, 5, 12])

    def test_a_row_detached_from_one_item_twice(self):
        text = KS + "row a : k, k ; row b : k, a ; goal p > q > r > q ; goal p > q > r > s > r ;"
        self.tells(text, [2, 2, 3])
        self.tells("axiom i : x > x > x ; row a : i, i ; row b : a, a ; goal ~ p ; goal p > p > p ;", [1, 0, 0])
        self.tells("axiom f : x > y > ~ x ; row a : f, f ; row b : a, a ; goal ~ ( p > q > ~ p ) ;", [1, 2, 3])

    def test_rows_without_a_formula(self):
        self.tells("axiom n : ~ x ; row a : n, n ; row b : n, a ; goal ~ p ; goal p ;", [1, 0, 0])

    def test_the_longest_trees(self):
        rows = AI + "".join(f"row r{i} : {'r' + str(i - 1) if i else 'i'}, i ; " for i in range(21))
        self.tells(KS + rows + "row b : k, r20 ; goal q > p > p ;", [1, 24, 3 + 2 * 21 + 21])
        rows = AI + "row r0 : i, i ; " + "".join(f"row r{i + 1} : r{i}, r{i} ; " for i in range(20))
        self.tells(KS + rows + "row b : k, r20 ; " + "goal q > p > p ;" * 4, [4, 24, 4 * 3 * 2**21])

    def test_many_texts(self):
        for proof in random_proofs(300):
            self.assertEqual(ask_last(load(proof.text()), totals()), proof.totals_answer(), proof.text())

    def test_the_same_again(self):
        told = ask(load(WORKED), totals(), totals(), load("axiom k : x ;"), totals(), load("?"), totals())
        self.assertEqual([told[i] for i in (1, 2, 4, 6)], [[1, 2, 2], [1, 2, 2], [0, 0, 0], [0, 0, 0]])


if __name__ == "__main__":
    unittest.main()
