"""The worked example of the document."""

import unittest

from helper import WORKED, ask, form, general, least, load, order, prune, short_form, shorten, shown, totals


# The calls behind load, and what the document says that they answer.
TOLD = [
    (totals(), [1, 2, 2]),
    (shorten(), [3, 6, 2, 5, 1, 0, 2, 0, 0, 3]),
    (general(4), [2, 2]),
    (general(5), [3, 2]),
    (prune(7), [3, 4, 6, 7]),
    (least(3, 7), [3, 5, 2, 3, 4, 6, 7]),
    (order([3, 7], [2, 3, 4, 6, 7]), [1, 3]),
    (order([7], [4, 6, 7]), [1, 2]),
    (order([7], [6, 4, 7]), [0]),
]


class Worked(unittest.TestCase):
    def test_the_calls_one_behind_another(self):
        told = ask(load(WORKED), *[call for call, _ in TOLD])
        self.assertEqual(told, [[1, 2, 6, 2]] + [wanted for _, wanted in TOLD])

    def test_each_call_by_itself(self):
        for call, wanted in TOLD:
            self.assertEqual(ask(load(WORKED), call), [[1, 2, 6, 2], wanted])

    def test_shorten_leaves_the_text(self):
        before, after = ask(load(WORKED), shown(), shorten(), shown())[1::2]
        self.assertEqual(before, after)

    def test_shown(self):
        lines = [
            "axiom k : x0 > x1 > x0 ;",
            "axiom s : ( x0 > x1 > x2 ) > ( x0 > x1 ) > x0 > x2 ;",
            "row a : s, k ;",
            "row i : a, k ;",
            "row c : s, k ;",
            "row e : a, a ;",
            "row j : c, c ;",
            "row b : k, j ;",
            "goal x0 > x0 ;",
            "goal x0 > x1 > x1 ;",
        ]
        self.assertEqual(form(WORKED), "".join(line + "\n" for line in lines))

    def test_short(self):
        lines = [
            "axiom k : x0 > x1 > x0 ;",
            "axiom s : ( x0 > x1 > x2 ) > ( x0 > x1 ) > x0 > x2 ;",
            "row a : s, k ;",
            "row i : a, k ;",
            "row b : k, i ;",
            "goal x0 > x0 ;",
            "goal x0 > x1 > x1 ;",
        ]
        self.assertEqual(short_form(WORKED), "".join(line + "\n" for line in lines))


if __name__ == "__main__":
    unittest.main()
