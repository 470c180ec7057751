"""The promises 1 to 3, by their words, over many texts."""

import unittest

from helper import Proof, ask, ask_last, general, instance_of, load, prune, random_proofs, shorten, size
from shortproofs.reading import read_text
from shortproofs.shortening import merged


def pairs(numbers):
    return list(zip(numbers[::2], numbers[1::2]))


def told_short(proof):
    """The shortened text that shorten tells, and its four numbers."""
    answer = ask_last(load(proof.text()), shorten())
    return Proof(proof.axioms, pairs(answer[4:]), proof.goals), answer[:4]


class Shortened(unittest.TestCase):
    """The first promise."""

    def test_no_more_rows(self):
        for proof in random_proofs(200):
            short, numbers = told_short(proof)
            self.assertEqual(numbers[:2], [len(short.rows), len(proof.rows)])
            self.assertLessEqual(len(short.rows), len(proof.rows))

    def test_it_proves_what_the_text_did(self):
        for proof in random_proofs(200):
            short = told_short(proof)[0]
            for goal in proof.goals:
                if proof.first_with(goal) is not None:
                    self.assertIsNotNone(short.first_with(goal), proof.text())

    def test_shortened_again_it_stays(self):
        for proof in random_proofs(200):
            short, numbers = told_short(proof)
            again, same = told_short(short)
            self.assertEqual(again.rows, short.rows, proof.text())
            self.assertEqual(same, [len(short.rows)] * 2 + [numbers[3]] * 2)

    def test_every_row_that_stays_is_needed(self):
        for proof in random_proofs(200):
            short = told_short(proof)[0]
            needed = ask_last(load(short.text()), prune(*short.targets()))
            self.assertEqual(needed[1:], list(range(len(short.axioms), len(short.formulas))))


class Merged(unittest.TestCase):
    """The second promise."""

    def test_no_row_is_an_instance_of_an_earlier_item(self):
        for proof in random_proofs(200):
            short = told_short(proof)[0]
            rows = range(len(short.axioms), len(short.formulas))
            told = ask(load(short.text()), *[general(row) for row in rows])
            self.assertEqual([answer[0] for answer in told[1:]], list(rows), proof.text())

    def test_no_row_is_an_instance_of_an_earlier_item_needed_or_not(self):
        for proof in random_proofs(200):
            text = merged(read_text(list(proof.text().encode())))
            every = Proof(proof.axioms, [source for source in text.sources if source is not None], [])
            self.assertEqual(every.rows, proof.merged()[0].rows)
            for row in range(len(every.axioms), len(every.formulas)):
                self.assertEqual(every.first_with(every.formulas[row]), row)

    def test_each_formula_has_become_one_as_general(self):
        for proof in random_proofs(60, 10):
            for item in range(len(proof.formulas)):
                formula = proof.formulas[item]
                if formula is None or size(formula) > 40:
                    continue
                short = told_short(Proof(proof.axioms, proof.rows, [formula]))[0]
                self.assertTrue(any(instance_of(formula, other) for other in short.formulas), proof.text())


class Pruned(unittest.TestCase):
    """The third promise."""

    def test_each_row_proves_what_it_did(self):
        for seed, proof in enumerate(random_proofs(200)):
            count = len(proof.formulas)
            items = [(seed * 7 + i * 5) % count for i in range(seed % 4)]
            rows = ask_last(load(proof.text()), prune(*items))[1:]
            alone = proof.with_rows_alone(rows)
            formulas = read_text(list(proof.text().encode())).formulas
            fewer = read_text(list(alone.text().encode())).formulas
            self.assertEqual(fewer[len(proof.axioms) :], [formulas[row] for row in rows], proof.text())

    def test_as_the_calls_tell_it(self):
        for proof in random_proofs(60):
            rows = ask_last(load(proof.text()), prune(len(proof.formulas) - 1))[1:]
            alone = proof.with_rows_alone(rows)
            places = range(len(alone.axioms), len(alone.formulas))
            self.assertEqual([alone.formulas[place] for place in places], [proof.formulas[row] for row in rows])
            told = ask(load(alone.text()), *[general(place) for place in places])
            self.assertEqual(told[1:], [alone.general_answer(place) for place in places], proof.text())


if __name__ == "__main__":
    unittest.main()
