"""least: the least peak, and the first order that has it."""

import unittest

from helper import WORKED, any_rows, ask, ask_last, least, load, order, random_places, random_proofs

FAR = 10**18
KS = "axiom k : x > y > x ; axiom s : ( x > y > z ) > ( x > y ) > x > z ; "


class Worked(unittest.TestCase):
    def tells(self, wished, peak, rows):
        self.assertEqual(ask_last(load(WORKED), least(*wished)), [peak, len(rows)] + rows)

    def test_of_the_document(self):
        self.tells([3, 7], 3, [2, 3, 4, 6, 7])

    def test_no_items(self):
        self.tells([], 0, [])

    def test_axioms_alone(self):
        self.tells([0], 0, [])
        self.tells([1, 0, 0], 0, [])

    def test_one_row(self):
        self.tells([2], 1, [2])
        self.tells([4, 0, 4], 1, [4])

    def test_several_rows(self):
        self.tells([7], 2, [4, 6, 7])
        self.tells([3], 2, [2, 3])
        self.tells([6, 7], 2, [4, 6, 7])
        self.tells([2, 4], 2, [2, 4])

    def test_the_items_order_means_nothing(self):
        self.tells([7, 3], 3, [2, 3, 4, 6, 7])
        self.tells([7, 0, 3, 7, 3, 1], 3, [2, 3, 4, 6, 7])
        self.tells([7, 3] * 1000, 3, [2, 3, 4, 6, 7])

    def test_rows_that_are_wished_for_and_still_needed(self):
        self.tells([4, 7], 3, [4, 6, 7])
        self.tells([2, 3, 5], 3, [2, 3, 5])
        self.tells([2, 3, 4, 5, 6, 7], 6, [2, 3, 4, 5, 6, 7])

    def test_numbers_that_are_no_item(self):
        for wrong in [-1, -2, -8, 8, 9, 1000, FAR, -FAR]:
            for call in [least(wrong), least(3, wrong), least(wrong, 7), least(*([7] * 1999 + [wrong]))]:
                self.assertEqual(ask_last(load(WORKED), call), [-2], wrong)


class Shapes(unittest.TestCase):
    def tells(self, pairs, wished, peak, rows):
        proof = any_rows(*pairs)
        self.assertEqual(ask_last(load(proof.text()), least(*wished)), [peak, len(rows)] + rows)

    def test_8_rows_and_9_rows(self):
        chain = [(0, 0)] + [(i, 0) for i in range(1, 24)]
        text = any_rows(*chain).text()
        told = ask(load(text), least(8), least(9), least(24), least(1, 8), least(9, 0), least(8, 8, 3))
        self.assertEqual(told[1:3], [[2, 8] + list(range(1, 9)), [-7]])
        self.assertEqual(told[3:], [[-7], [3, 8] + list(range(1, 9)), [-7], [3, 8] + list(range(1, 9))])

    def test_8_rows_and_9_rows_by_themselves(self):
        text = any_rows(*[(0, 0)] * 24).text()
        told = ask(load(text), least(*range(1, 9)), least(*range(17, 25)), least(*range(1, 10)), least(*range(25)))
        self.assertEqual(told[1:], [[8, 8] + list(range(1, 9)), [8, 8] + list(range(17, 25)), [-7], [-7]])

    def test_no_item_is_told_ahead_of_too_many_rows(self):
        text = any_rows(*[(0, 0)] * 24).text()
        for wrong in [-1, 25, FAR, -FAR]:
            told = ask(load(text), least(*range(25), wrong), least(wrong, *range(25)), least(*range(25)))
            self.assertEqual(told[1:], [[-2], [-2], [-7]])

    def test_chains(self):
        self.tells([(0, 0), (1, 0), (2, 0), (3, 0), (4, 0)], [5], 2, [1, 2, 3, 4, 5])
        self.tells([(0, 0), (1, 1), (2, 2), (3, 3)], [4], 2, [1, 2, 3, 4])
        self.tells([(0, 0), (0, 1), (1, 2), (2, 3), (3, 4)], [5], 3, [1, 2, 3, 4, 5])

    def test_two_chains(self):
        self.tells([(0, 0), (0, 0), (1, 0), (2, 0), (3, 0), (4, 0), (5, 6)], [7], 3, [1, 2, 3, 4, 5, 6, 7])
        self.tells([(0, 0), (0, 0), (1, 0), (2, 0)], [3, 4], 3, [1, 2, 3, 4])

    def test_trees(self):
        self.tells([(0, 0), (0, 0), (1, 2)], [3], 3, [1, 2, 3])
        tree = [(0, 0), (0, 0), (0, 0), (0, 0), (1, 2), (3, 4), (5, 6)]
        self.tells(tree, [7], 4, [1, 2, 3, 5, 4, 6, 7])
        self.tells([(0, 0), (0, 0), (1, 2), (0, 0), (3, 4), (0, 0), (5, 6)], [7], 3, [1, 2, 3, 4, 5, 6, 7])
        self.tells([(0, 0), (0, 0), (0, 0), (2, 3), (1, 4)], [5], 3, [2, 3, 4, 1, 5])

    def test_the_deeper_part_first(self):
        # Row 1 is a leaf that's used at the very end: worked out first, it's held all along.
        self.tells([(0, 0), (0, 0), (0, 0), (2, 3), (4, 1)], [5], 3, [2, 3, 4, 1, 5])
        self.tells([(0, 0), (0, 0), (0, 0), (2, 3), (4, 1)], [1, 5], 3, [2, 3, 4, 1, 5])

    def test_rows_that_many_others_are_detached_from(self):
        star = [(0, 0)] + [(1, 0)] * 7
        self.tells(star, range(2, 9), 8, [1, 2, 3, 4, 5, 6, 7, 8])
        self.tells(star, [8, 2], 3, [1, 2, 8])
        self.tells([(0, 0), (1, 0), (1, 2), (1, 3), (1, 4), (1, 5)], [6], 3, [1, 2, 3, 4, 5, 6])

    def test_the_first_of_several_orders(self):
        self.tells([(0, 0), (0, 0), (0, 0)], [1, 2, 3], 3, [1, 2, 3])
        self.tells([(0, 0), (0, 0), (2, 0), (1, 0)], [3, 4], 3, [1, 2, 3, 4])
        self.tells([(0, 0), (0, 0), (2, 0), (1, 3)], [4], 3, [1, 2, 3, 4])

    def test_rows_that_are_not_needed_count_for_nothing(self):
        self.tells([(0, 0), (1, 0), (1, 1), (2, 1), (2, 0)], [5], 2, [1, 2, 5])

    def test_rows_without_a_formula(self):
        text = "axiom n : ~ x ; row a : n, n ; row b : a, n ; row c : n, n ; row d : c, b ;"
        self.assertEqual(ask(load(text), least(4), least(2))[1:], [[3, 4, 1, 2, 3, 4], [2, 2, 1, 2]])


class ManyTexts(unittest.TestCase):
    def test_all_orders_gone_through(self):
        asked = 0
        for proof, wished in random_places(400, 10):
            if len(proof.needed(wished)) > 7:
                continue
            told = ask_last(load(proof.text()), least(*wished))
            self.assertEqual(told, proof.least_answer(wished), (proof.text(), wished))
            self.assertEqual(ask_last(load(proof.text()), order(wished, told[2:])), [1, told[0]])
            asked = asked + 1
        self.assertGreater(asked, 250)

    def test_proofs(self):
        for proof in random_proofs(150, 12):
            lists = [[item] for item in range(len(proof.formulas)) if len(proof.needed([item])) <= 6]
            told = ask(load(proof.text()), *[least(*wished) for wished in lists])
            self.assertEqual(told[1:], [proof.least_answer(wished) for wished in lists], proof.text())

    def test_how_many_rows_are_too_many(self):
        for proof, wished in random_places(200, 16):
            told = ask_last(load(proof.text()), least(*wished))
            self.assertEqual(told == [-7], len(proof.needed(wished)) > 8, (proof.text(), wished))


if __name__ == "__main__":
    unittest.main()
