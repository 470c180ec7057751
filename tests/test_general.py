"""general: the first item as general, and how many are alike."""

import unittest

from helper import WORKED, ask, ask_last, general, load, random_proofs

FAR = 10**18


class General(unittest.TestCase):
    def test_each_item(self):
        told = ask(load(WORKED), *[general(item) for item in range(8)])
        self.assertEqual(told[1:], [[0, 1], [1, 1], [2, 2], [3, 1], [2, 2], [3, 2], [3, 2], [7, 1]])

    def test_numbers_that_are_no_item(self):
        for wrong in [-1, -8, 8, 9, 100, FAR, -FAR, FAR - 1, 2**32, 2**32 + 1, -(2**32)]:
            self.assertEqual(ask_last(load(WORKED), general(wrong)), [-2], wrong)

    def test_rows_without_a_formula(self):
        text = "axiom n : ~ x ; axiom k : x > y ; row a : n, k ; row b : k, a ; row c : k, n ; row d : n, n ;"
        told = ask(load(text), *[general(item) for item in range(-1, 7)])
        self.assertEqual(told[1:], [[-2], [0, 1], [1, 1], [-5], [-5], [4, 1], [-5], [-2]])

    def test_alike_formulas(self):
        text = "axiom a : p > q > p ; axiom b : q > p > q ; axiom c : x > y > y ; axiom d : ( x > ( y > x ) ) ;"
        told = ask(load(text), *[general(item) for item in range(4)])
        self.assertEqual(told[1:], [[0, 3], [0, 3], [2, 1], [0, 3]])

    def test_more_general_isnt_alike(self):
        text = "axiom a : p > p ; axiom b : p > q ; axiom c : ~ p > ~ p ; axiom d : p > ~ p ; axiom e : p ;"
        told = ask(load(text), *[general(item) for item in range(5)])
        self.assertEqual(told[1:], [[0, 1], [1, 1], [0, 1], [1, 1], [4, 1]])

    def test_an_unknown_stands_for_the_same_each_time(self):
        text = "axiom a : p > p ; axiom b : ( x > y ) > x > y ; axiom c : ( x > y ) > x > z ; axiom d : ( x > y ) > y > x ;"
        told = ask(load(text), *[general(item) for item in range(4)])
        self.assertEqual(told[1:], [[0, 1], [0, 1], [2, 1], [3, 1]])

    def test_the_first_of_several(self):
        text = "axiom a : ~ ~ x ; axiom b : ~ x ; axiom c : x ; axiom d : ~ ~ y ; axiom e : ~ y ; axiom f : y > z ;"
        told = ask(load(text), *[general(item) for item in range(6)])
        self.assertEqual(told[1:], [[0, 2], [1, 2], [2, 1], [0, 2], [1, 2], [2, 1]])

    def test_a_later_item_may_be_the_first_as_general(self):
        told = ask(load("axiom a : x > x ; axiom b : x > y ; row r : b, a ;"), general(0), general(1), general(2))
        self.assertEqual(told[1:], [[0, 1], [1, 1], [2, 1]])

    def test_goals_dont_count(self):
        self.assertEqual(ask_last(load("axiom a : ~ x ; goal ~ x ; goal x ;"), general(0)), [0, 1])

    def test_rows_and_axioms_alike(self):
        text = "axiom k : x > y > x ; axiom i : x > x ; row a : i, i ; row b : i, k ; row c : a, a ;"
        told = ask(load(text), *[general(item) for item in range(5)])
        self.assertEqual(told[1:], [[0, 2], [1, 3], [1, 3], [0, 2], [1, 3]])

    def test_many_texts(self):
        for proof in random_proofs(80, 12):
            count = len(proof.formulas)
            told = ask(load(proof.text()), *[general(item) for item in range(count)])
            self.assertEqual(told[1:], [proof.general_answer(item) for item in range(count)], proof.text())


if __name__ == "__main__":
    unittest.main()
