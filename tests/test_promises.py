"""The promises 1 to 4, by their words, over many texts."""

import itertools
import unittest

from helper import Proof, ask, ask_last, general, instance_of, least, load, order, prune, random_places, random_proofs
from helper import short_form, shorten, size, totals
from shortproofs.reading import read_text
from shortproofs.shortening import merged


def pairs(numbers):
    return list(zip(numbers[::2], numbers[1::2]))


def pairs_of_text(text):
    """The rows of a text in the one form, as pairs of items."""
    lines = [line.replace(",", "").split() for line in text.splitlines()]
    names = [line[1] for line in lines if line[0] != "goal"]
    return [(names.index(line[3]), names.index(line[4])) for line in lines if line[0] == "row"]


def told_short(proof):
    """The shortened text that shorten tells, and its four numbers."""
    answer = ask_last(load(proof.text()), shorten())
    return Proof(proof.axioms, pairs(answer[4:]), proof.goals), answer[:4]


class Shortened(unittest.TestCase):
    """The first promise."""

    def test_no_more_rows(self):
        for proof in random_proofs(200):
            short, numbers = told_short(proof)
            self.assertEqual(numbers[:2], [len(short.rows), len(proof.rows)])
            self.assertLessEqual(len(short.rows), len(proof.rows))

    def test_it_proves_what_the_text_did(self):
        for proof in random_proofs(200):
            short = told_short(proof)[0]
            for goal in proof.goals:
                if proof.first_with(goal) is not None:
                    self.assertIsNotNone(short.first_with(goal), proof.text())

    def test_shortened_again_it_stays(self):
        for proof in random_proofs(200):
            short, numbers = told_short(proof)
            again, same = told_short(short)
            self.assertEqual(again.rows, short.rows, proof.text())
            self.assertEqual(same, [len(short.rows)] * 2 + [numbers[3]] * 2)

    def test_by_the_text_that_short_tells(self):
        for proof in random_proofs(200):
            text = short_form(proof.text())
            loaded, before = ask(load(proof.text()), totals())
            loaded_short, after = ask(load(text), totals())
            self.assertLessEqual(loaded_short[2], loaded[2])
            self.assertGreaterEqual(after[0], before[0], proof.text())
            self.assertEqual(after[1], loaded_short[2])
            self.assertEqual(short_form(text), text)
            formulas = Proof(proof.axioms, pairs_of_text(text), proof.goals)
            for goal in proof.goals:
                if proof.first_with(goal) is not None:
                    self.assertIsNotNone(formulas.first_with(goal), proof.text())

    def test_every_row_that_stays_is_needed(self):
        for proof in random_proofs(200):
            short = told_short(proof)[0]
            needed = ask_last(load(short.text()), prune(*short.targets()))
            self.assertEqual(needed[1:], list(range(len(short.axioms), len(short.formulas))))


class Merged(unittest.TestCase):
    """The second promise."""

    def test_no_row_is_an_instance_of_an_earlier_item(self):
        for proof in random_proofs(200):
            short = told_short(proof)[0]
            rows = range(len(short.axioms), len(short.formulas))
            told = ask(load(short.text()), *[general(row) for row in rows])
            self.assertEqual([answer[0] for answer in told[1:]], list(rows), proof.text())

    def test_no_row_is_an_instance_of_an_earlier_item_needed_or_not(self):
        for proof in random_proofs(200):
            text = merged(read_text(list(proof.text().encode())))
            every = Proof(proof.axioms, [source for source in text.sources if source is not None], [])
            self.assertEqual(every.rows, proof.merged()[0].rows)
            for row in range(len(every.axioms), len(every.formulas)):
                self.assertEqual(every.first_with(every.formulas[row]), row)

    def test_each_formula_has_become_one_as_general(self):
        for proof in random_proofs(60, 10):
            for item in range(len(proof.formulas)):
                formula = proof.formulas[item]
                if formula is None or size(formula) > 40:
                    continue
                short = told_short(Proof(proof.axioms, proof.rows, [formula]))[0]
                self.assertTrue(any(instance_of(formula, other) for other in short.formulas), proof.text())


class Pruned(unittest.TestCase):
    """The third promise."""

    def test_each_row_proves_what_it_did(self):
        for seed, proof in enumerate(random_proofs(200)):
            count = len(proof.formulas)
            items = [(seed * 7 + i * 5) % count for i in range(seed % 4)]
            rows = ask_last(load(proof.text()), prune(*items))[1:]
            alone = proof.with_rows_alone(rows)
            formulas = read_text(list(proof.text().encode())).formulas
            fewer = read_text(list(alone.text().encode())).formulas
            self.assertEqual(fewer[len(proof.axioms) :], [formulas[row] for row in rows], proof.text())

    def test_as_the_calls_tell_it(self):
        for proof in random_proofs(60):
            rows = ask_last(load(proof.text()), prune(len(proof.formulas) - 1))[1:]
            alone = proof.with_rows_alone(rows)
            places = range(len(alone.axioms), len(alone.formulas))
            self.assertEqual([alone.formulas[place] for place in places], [proof.formulas[row] for row in rows])
            told = ask(load(alone.text()), *[general(place) for place in places])
            self.assertEqual(told[1:], [alone.general_answer(place) for place in places], proof.text())

    def test_an_order_of_them_is_one_of_the_rows_alone(self):
        for proof in random_proofs(100):
            item = len(proof.formulas) - 1
            rows = ask_last(load(proof.text()), prune(item))[1:]
            alone = proof.with_rows_alone(rows)
            every = list(range(len(alone.axioms), len(alone.formulas)))
            told = ask_last(load(proof.text()), order([item], rows))
            self.assertEqual(told[0], 1)
            self.assertEqual(ask_last(load(alone.text()), order(every[-1:], every)), told, proof.text())


class Least(unittest.TestCase):
    """The fourth promise."""

    def test_all_orders_asked_for(self):
        for proof, wished in random_places(120, 8):
            if len(proof.needed(wished)) > 5:
                continue
            told = ask_last(load(proof.text()), least(*wished))
            rows = ask_last(load(proof.text()), prune(*wished))[1:]
            self.assertEqual([told[1], sorted(told[2:])], [len(rows), rows])
            found = {}
            every = list(itertools.permutations(rows))
            for at in range(0, len(every), 39):
                some = every[at : at + 39]
                answers = ask(load(proof.text()), *[order(wished, each) for each in some])[1:]
                found.update({each: answer[1] for each, answer in zip(some, answers) if answer[0] == 1})
            self.assertEqual(told[0], min(found.values()), (proof.text(), wished))
            first = min(each for each in found if found[each] == told[0])
            self.assertEqual(told[2:], list(first), (proof.text(), wished))

    def test_all_orders_of_up_to_7_rows(self):
        counts = set()
        for proof, wished in random_places(150, 9):
            rows = proof.needed(wished)
            if len(rows) > 7:
                continue
            counts.add(len(rows))
            told = ask_last(load(proof.text()), least(*wished))
            self.assertEqual(told[2:], self.first_of_all(proof, wished, rows, told[0]), (proof.text(), wished))
        self.assertEqual(counts, set(range(8)))

    def first_of_all(self, proof, wished, rows, peak):
        """The first order with this peak; none may have a lower one."""
        found = None
        for each in itertools.permutations(rows):
            if any(not proof.sources(row) <= set(each[:at]) for at, row in enumerate(each)):
                continue
            needs = proof.peak(wished, each)
            self.assertGreaterEqual(needs, peak, (proof.text(), wished, each))
            if found is None and needs == peak:
                found = list(each)
        return found


if __name__ == "__main__":
    unittest.main()
