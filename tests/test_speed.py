"""Texts of the greatest sizes are answered quickly."""

import time
import unittest

from helper import any_rows, ask, general, least, load, order, prune, short, shorten, shown, totals

SECONDS = 5


class Speed(unittest.TestCase):
    def quick(self, *calls):
        begin = time.monotonic()
        told = ask(*calls)
        self.assertLess(time.monotonic() - begin, SECONDS)
        return told

    def all_calls(self, text):
        """40 calls, one kind at a time."""
        rows = self.quick(load(text), *[shorten()] * 39)[0][2]
        self.assertEqual(rows, 24)
        self.quick(load(text), *[shown()] * 39)
        self.quick(load(text), *[short()] * 39)
        self.quick(load(text), *[totals()] * 39)
        self.quick(load(text), *[general(item) for item in range(25)] + [general(24)] * 14)
        self.quick(load(text), *[prune(*range(24)) for _ in range(39)])
        self.quick(*[load(text)] * (16000 // (len(text) + 2)))

    def test_long_formulas(self):
        long = " > ".join(["x"] * 19 + ["y"])
        axioms = f"axiom f : x > ~ x ; axiom g : x > x ; axiom m : {long} ; axiom k : x > y > x ; axiom h : ~ x > y ; "
        rows = "row r0 : f, m ; " + "".join(f"row r{i + 1} : f, r{i} ; " for i in range(15))
        more = "".join(f"row q{i} : g, r{i + 7} ; " for i in range(8))
        self.all_calls(axioms + rows + more + f"goal ~ {long} ; goal ~ ( {long} ) ; " * 2)

    def test_rows_that_need_all_earlier_ones(self):
        rows = "row r0 : k, i ; " + "".join(f"row r{i + 1} : r{i}, r{i} ; " for i in range(23))
        self.all_calls("axiom k : x > y > x ; axiom i : x > x ; " + rows + "goal q > p > p ; " * 4)
        rows = "row r0 : i, i ; " + "".join(f"row r{i + 1} : r{i}, r{i} ; " for i in range(23))
        self.all_calls("axiom i : x > x ; " + rows + "goal ~ x > ~ x ; " * 4)

    def test_formulas_that_double_on_the_way(self):
        names = "abcdefg"
        first = ["a"] + [part for i in range(5) for part in (f"( {names[i]} > {names[i]} )", names[i + 1])]
        second = ["( x > x > x > x > x )"] + [f"z{i // 2}" for i in range(10)]
        text = f"axiom f : ( {' > '.join(first)} ) > g ; axiom s : {' > '.join(second)} ; "
        self.all_calls(text + "".join(f"row r{i} : f, s ; " for i in range(24)) + "goal x ; " * 4)

    def test_formulas_that_cant_become_the_same_late(self):
        long = " > ".join(["x", "y"] * 9)
        text = f"axiom f : ( {long} > ~ x ) > y ; axiom s : {long} > x > x ; "
        self.all_calls(text + "".join(f"row r{i} : f, s ; " for i in range(24)) + f"goal {long} ; " * 4)

    def test_long_lists_of_items(self):
        rows = "row r0 : i, i ; " + "".join(f"row r{i + 1} : r{i}, r{i} ; " for i in range(23))
        told = self.quick(load("axiom i : x > x ; " + rows), *[prune(*([24] * 2000))] * 7)
        self.assertEqual(told[1:], [[24] + list(range(1, 25))] * 7)

    def test_least_of_8_rows(self):
        shapes = [
            [(0, 0)] * 24,
            [(0, 0)] + [(i, i) for i in range(1, 24)],
            [(0, 0)] + [(1, 0)] * 23,
            [(0, 0)] * 4 + [(1, 2), (3, 4), (5, 6), (7, 1)] + [(0, 0)] * 16,
        ]
        for pairs in shapes:
            text = any_rows(*pairs).text()
            told = self.quick(load(text), *[least(*range(1, 9))] * 39)
            self.assertEqual([answer[:2] for answer in told[1:]], [[8, 8]] * 39)
            self.quick(load(text), *[least(8)] * 39)
            self.quick(load(text), *[least(*range(25))] * 39)

    def test_long_lists_of_least_and_order(self):
        text = any_rows((0, 0), *[(i, i) for i in range(1, 24)]).text()
        every = list(range(1, 25))
        told = self.quick(load(text), *[least(*[8] * 2000)] * 7)
        self.assertEqual(told[1:], [[2, 8] + every[:8]] * 7)
        told = self.quick(load(text), *[order([24] * 2000, every)] * 7)
        self.assertEqual(told[1:], [[1, 2]] * 7)
        told = self.quick(load(text), *[order(every, every * 80)] * 7)
        self.assertEqual(told[1:], [[0]] * 7)
        told = self.quick(load(text), *[order(every, every)] * 39)
        self.assertEqual(told[1:], [[1, 24]] * 39)

    def test_long_texts(self):
        self.quick(load("#" * 8192), load("( " * 2048), load("axiom k : " + "x > " * 900))
        self.quick(*[load("axiom k : " + "( x > x > x > x > x ) > " * 36 + "x ;") for _ in range(15)])


if __name__ == "__main__":
    unittest.main()
