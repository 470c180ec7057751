"""order: whether an order is one of the rows that are needed, and its peak."""

import itertools
import random
import unittest

from helper import WORKED, any_rows, ask, ask_last, load, order, random_places

FAR = 10**18
WRONG = [-1, -2, -8, 8, 9, 1000, FAR, -FAR]


class Worked(unittest.TestCase):
    def has_peak(self, wished, rows, peak):
        self.assertEqual(ask_last(load(WORKED), order(wished, rows)), [1, peak])

    def is_none(self, wished, rows):
        self.assertEqual(ask_last(load(WORKED), order(wished, rows)), [0])

    def test_of_the_document(self):
        self.has_peak([3, 7], [2, 3, 4, 6, 7], 3)
        self.has_peak([7], [4, 6, 7], 2)
        self.is_none([7], [6, 4, 7])

    def test_no_items_and_an_empty_order(self):
        self.has_peak([], [], 0)
        self.is_none([], [2])
        self.is_none([], [0])
        self.is_none([2], [])

    def test_axioms_alone(self):
        self.has_peak([0], [], 0)
        self.has_peak([1, 0, 1], [], 0)
        self.is_none([0], [0])
        self.is_none([0, 1], [0, 1])
        self.is_none([1], [2])

    def test_axioms_beside_rows_take_no_place(self):
        self.has_peak([0, 2, 1], [2], 1)
        self.has_peak([0, 1, 7], [4, 6, 7], 2)

    def test_wished_twice(self):
        self.has_peak([7, 7], [4, 6, 7], 2)
        self.has_peak([3, 7, 3, 3], [2, 3, 4, 6, 7], 3)
        self.has_peak([7, 3] * 1000, [2, 3, 4, 6, 7], 3)

    def test_what_is_wished_for_stays_held(self):
        self.has_peak([4, 7], [4, 6, 7], 3)
        self.has_peak([6, 7], [4, 6, 7], 2)
        self.has_peak([4, 6, 7], [4, 6, 7], 3)
        self.has_peak([2, 4], [2, 4], 2)
        self.has_peak([2, 4], [4, 2], 2)
        self.has_peak([2, 3], [2, 3], 2)

    def test_orders_with_unlike_peaks(self):
        self.has_peak([3, 7], [2, 4, 3, 6, 7], 3)
        self.has_peak([3, 7], [4, 2, 6, 3, 7], 3)
        self.has_peak([3, 5, 6], [2, 3, 5, 4, 6], 4)
        self.has_peak([3, 5, 6], [2, 4, 3, 5, 6], 4)
        self.has_peak([3, 5, 6], [4, 6, 2, 3, 5], 4)
        self.has_peak([3, 6], [2, 4, 3, 6], 3)
        self.has_peak([5, 7], [2, 4, 6, 5, 7], 3)

    def test_a_row_twice(self):
        self.is_none([7], [4, 6, 7, 7])
        self.is_none([7], [4, 4, 6, 7])
        self.is_none([7], [4, 6, 6])
        self.is_none([7, 7], [4, 6, 7, 4, 6, 7])

    def test_one_too_many(self):
        self.is_none([7], [4, 6, 7, 5])
        self.is_none([7], [2, 4, 6, 7])
        self.is_none([7], [4, 2, 6, 7])

    def test_one_too_few(self):
        self.is_none([7], [4, 6])
        self.is_none([7], [6, 7])
        self.is_none([7], [7])
        self.is_none([7], [])

    def test_one_for_another(self):
        self.is_none([7], [2, 6, 7])
        self.is_none([7], [4, 6, 5])

    def test_a_row_ahead_of_one_that_its_detached_from(self):
        self.is_none([7], [4, 7, 6])
        self.is_none([7], [7, 6, 4])
        self.is_none([3, 7], [3, 2, 4, 6, 7])

    def test_with_an_axiom(self):
        self.is_none([7], [0, 4, 6, 7])
        self.is_none([7], [4, 6, 7, 1])
        self.is_none([7], [4, 0, 7])

    def test_with_a_row_that_nobody_needs(self):
        self.is_none([3], [2, 5, 3])
        self.is_none([3], [2, 3, 5])

    def test_numbers_that_are_no_item(self):
        for wrong in WRONG:
            refused = [
                order([wrong], []),
                order([], [wrong]),
                order([7, wrong], [4, 6, 7]),
                order([wrong, 7], [4, 6, 7]),
                order([7], [4, 6, 7, wrong]),
                order([7], [wrong, 4, 6, 7]),
                order([7], [6, 4, wrong]),
                order([wrong], [6, 4, 4]),
                order([wrong], [wrong]),
                order([7] * 1999 + [wrong], [4, 6, 7]),
                order([7], [4] * 1999 + [wrong]),
            ]
            for call in refused:
                self.assertEqual(ask_last(load(WORKED), call), [-2], call)

    def test_long_lists(self):
        self.is_none([7] * 2000, [4, 6, 7] * 600)
        self.is_none([7], [7] * 2000)
        self.has_peak([0, 1, 7, 6] * 500, [4, 6, 7], 2)


class Shapes(unittest.TestCase):
    def peaks(self, pairs, wished, told_orders):
        proof = any_rows(*pairs)
        told = ask(load(proof.text()), *[order(wished, rows) for rows, _ in told_orders])
        self.assertEqual(told[1:], [[1, peak] if peak else [0] for _, peak in told_orders])

    def test_a_row_that_two_others_are_detached_from(self):
        pairs = [(0, 0), (1, 0), (0, 1), (2, 3)]
        self.peaks(pairs, [4], [([1, 2, 3, 4], 3), ([1, 3, 2, 4], 3), ([2, 1, 3, 4], 0)])
        self.peaks(pairs, [2, 3], [([1, 2, 3], 3), ([1, 3, 2], 3)])
        self.peaks([(0, 0), (1, 0), (2, 1), (3, 0)], [4], [([1, 2, 3, 4], 3)])

    def test_a_row_detached_from_one_item_twice(self):
        self.peaks([(0, 0), (1, 1)], [2], [([1, 2], 2), ([2, 1], 0)])
        self.peaks([(0, 0), (1, 1), (2, 2), (3, 3)], [4], [([1, 2, 3, 4], 2)])
        self.peaks([(0, 0), (1, 1), (2, 1)], [3], [([1, 2, 3], 3)])

    def test_rows_that_dont_belong_to_the_order_count_for_nothing(self):
        # The rows 3 and 4 are detached from 1 and 2, but aren't needed.
        pairs = [(0, 0), (1, 0), (1, 1), (2, 1), (2, 0)]
        self.peaks(pairs, [5], [([1, 2, 5], 2)])
        self.peaks(pairs, [2], [([1, 2], 2)])

    def test_a_row_that_is_held_while_the_last_one_is_worked_out(self):
        self.peaks([(0, 0), (0, 0), (1, 2)], [3], [([1, 2, 3], 3), ([2, 1, 3], 3)])
        self.peaks([(0, 0), (0, 0), (0, 0), (1, 2), (4, 3)], [5], [([1, 2, 4, 3, 5], 3), ([1, 2, 3, 4, 5], 4)])

    def test_all_24_rows(self):
        pairs = [(0, 0)] + [(i, i) for i in range(1, 24)]
        every = list(range(1, 25))
        self.peaks(pairs, [24], [(every, 2), (every[:-1], 0), (every[::-1], 0), (every + [24], 0)])
        self.peaks(pairs, every, [(every, 24)])
        self.peaks([(0, 0)] * 24, every, [(every, 24), (every[::-1], 24), (every[12:] + every[:12], 24)])

    def test_rows_without_a_formula(self):
        text = "axiom n : ~ x ; row a : n, n ; row b : a, n ; row c : n, n ; row d : c, b ;"
        told = ask(load(text), order([4], [1, 2, 3, 4]), order([4], [3, 1, 2, 4]), order([4], [3, 2, 1, 4]))
        self.assertEqual(told[1:], [[1, 3], [1, 3], [0]])


class ManyTexts(unittest.TestCase):
    def test_all_lists_of_few_rows(self):
        for proof, wished in random_places(60, 4):
            items = range(len(proof.formulas))
            lists = [list(rows) for count in range(4) for rows in itertools.product(items, repeat=count)]
            lists.extend(list(rows) for rows in itertools.permutations(items))
            for at in range(0, len(lists), 39):
                some = lists[at : at + 39]
                told = ask(load(proof.text()), *[order(wished, rows) for rows in some])
                self.assertEqual(told[1:], [proof.order_answer(wished, rows) for rows in some], proof.text())

    def test_many_rows(self):
        source = random.Random(9)
        right = 0
        for proof, wished in random_places(150, 24):
            lists = [self.made(source, proof, wished) for _ in range(30)]
            told = ask(load(proof.text()), *[order(wished, rows) for rows in lists])
            self.assertEqual(told[1:], [proof.order_answer(wished, rows) for rows in lists], proof.text())
            right = right + sum(answer[0] for answer in told[1:])
        self.assertGreater(right, 1000)

    def made(self, source, proof, wished):
        """An order that's mostly right."""
        left = proof.needed(wished)
        rows = []
        while left:
            fitting = [row for row in left if proof.sources(row) <= set(rows)]
            rows.append(source.choice(fitting))
            left.remove(rows[-1])
        if rows and source.random() < 0.2:
            rows[source.randrange(len(rows))] = source.randrange(len(proof.formulas))
        if source.random() < 0.2:
            source.shuffle(rows)
        return rows


if __name__ == "__main__":
    unittest.main()
