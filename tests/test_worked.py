"""The worked example of the document."""

import unittest

from helper import WORKED, ask, form, general, load, prune, shorten, shown


class Worked(unittest.TestCase):
    def test_the_calls_one_behind_another(self):
        told = ask(load(WORKED), shorten(), general(4), general(5), prune(7))
        self.assertEqual(told, [[1, 2, 6, 2], [3, 6, 2, 5, 1, 0, 2, 0, 0, 3], [2, 2], [3, 2], [3, 4, 6, 7]])

    def test_each_call_by_itself(self):
        self.assertEqual(ask(load(WORKED), prune(7)), [[1, 2, 6, 2], [3, 4, 6, 7]])
        self.assertEqual(ask(load(WORKED), general(5)), [[1, 2, 6, 2], [3, 2]])

    def test_shorten_leaves_the_text(self):
        before, after = ask(load(WORKED), shown(), shorten(), shown())[1::2]
        self.assertEqual(before, after)

    def test_shown(self):
        lines = [
            "axiom k : x0 > x1 > x0 ;",
            "axiom s : ( x0 > x1 > x2 ) > ( x0 > x1 ) > x0 > x2 ;",
            "row a : s, k ;",
            "row i : a, k ;",
            "row c : s, k ;",
            "row e : a, a ;",
            "row j : c, c ;",
            "row b : k, j ;",
            "goal x0 > x0 ;",
            "goal x0 > x1 > x1 ;",
        ]
        self.assertEqual(form(WORKED), "".join(line + "\n" for line in lines))


if __name__ == "__main__":
    unittest.main()
