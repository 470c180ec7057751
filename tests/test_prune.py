"""prune: the rows that items need."""

import random
import unittest

from helper import WORKED, ask, ask_last, load, prune, random_proofs

FAR = 10**18


class Prune(unittest.TestCase):
    def needs(self, items, rows, text=WORKED):
        self.assertEqual(ask_last(load(text), prune(*items)), [len(rows)] + rows)

    def test_no_items(self):
        self.needs([], [])
        self.needs([], [], "axiom k : x ;")

    def test_axioms(self):
        self.needs([0], [])
        self.needs([1], [])
        self.needs([0, 1, 0], [])

    def test_one_row(self):
        self.needs([2], [2])
        self.needs([3], [2, 3])
        self.needs([4], [4])
        self.needs([5], [2, 5])
        self.needs([6], [4, 6])
        self.needs([7], [4, 6, 7])

    def test_several(self):
        self.needs([3, 7], [2, 3, 4, 6, 7])
        self.needs([7, 3], [2, 3, 4, 6, 7])
        self.needs([6, 4], [4, 6])
        self.needs([2, 4], [2, 4])
        self.needs([0, 7, 1, 2], [2, 4, 6, 7])
        self.needs([7, 6, 5, 4, 3, 2, 1, 0], [2, 3, 4, 5, 6, 7])

    def test_some_twice(self):
        self.needs([3, 3], [2, 3])
        self.needs([4, 7, 4, 4, 7], [4, 6, 7])
        self.needs([7, 3] * 1000, [2, 3, 4, 6, 7])

    def test_numbers_that_are_no_item(self):
        for wrong in [-1, -2, 8, 9, 1000, FAR, -FAR]:
            self.assertEqual(ask_last(load(WORKED), prune(wrong)), [-2], wrong)
            self.assertEqual(ask_last(load(WORKED), prune(3, wrong)), [-2], wrong)
            self.assertEqual(ask_last(load(WORKED), prune(wrong, 7)), [-2], wrong)
            self.assertEqual(ask_last(load(WORKED), prune(*([7] * 1999 + [wrong]))), [-2], wrong)

    def test_how_many_items_a_text_has(self):
        self.assertEqual(ask(load("axiom k : x ;"), prune(0), prune(1))[1:], [[0], [-2]])
        self.assertEqual(ask(load("axiom k : x ; goal x ;"), prune(1))[1:], [[-2]])
        self.assertEqual(ask(load("axiom k : x ; row a : k, k ;"), prune(1), prune(2))[1:], [[1, 1], [-2]])

    def test_rows_without_a_formula(self):
        text = "axiom n : ~ x ; row a : n, n ; row b : a, n ; row c : n, n ; row d : c, b ;"
        self.needs([2], [1, 2], text)
        self.needs([4], [1, 2, 3, 4], text)

    def test_a_long_chain(self):
        rows = "row r0 : k, k ;" + "".join(f"row r{i + 1} : r{i}, r{i} ;" for i in range(23))
        self.needs([24], list(range(1, 25)), "axiom k : x > y > x ;" + rows)
        self.needs([12], list(range(1, 13)), "axiom k : x > y > x ;" + rows)

    def test_many_texts(self):
        source = random.Random(4)
        for proof in random_proofs(80):
            count = len(proof.formulas)
            lists = [[source.randrange(count) for _ in range(source.randrange(6))] for _ in range(8)]
            told = ask(load(proof.text()), *[prune(*items) for items in lists])
            self.assertEqual(told[1:], [proof.prune_answer(items) for items in lists], proof.text())


if __name__ == "__main__":
    unittest.main()
