"""The rule, as the calls show it: what a row's formula is, and when it has none."""

import random
import unittest

from helper import Proof, ask, general, load, random_formula, random_proofs, renumbered, rule, size, told


def implications(count):
    return " > ".join(["x"] * count)


class RuleCase(unittest.TestCase):
    def texts(self, first, second, third="z"):
        """The row r (the item 3) is detached from the first two axioms."""
        return f"axiom f : {first} ; axiom s : {second} ; axiom e : {third} ; row r : f, s ;"

    def detaches(self, first, second, wanted):
        """What's detached is alike to what's wanted: both are told alike to as many items, more than without it."""
        row = ask(load(self.texts(first, second, wanted)), general(3))[-1]
        axiom = ask(load(self.texts(first, second, wanted)), general(2))[-1]
        self.assertEqual(row, axiom)
        without = ask(load(f"axiom f : {first} ; axiom s : {second} ; axiom e : {wanted} ;"), general(2))[-1]
        self.assertEqual(row[1], without[1] + 1)

    def detaches_something(self, first, second):
        self.assertGreaterEqual(ask(load(self.texts(first, second)), general(3))[-1][0], 0)

    def detaches_nothing(self, first, second):
        self.assertEqual(ask(load(self.texts(first, second)), general(3))[-1], [-5])


class Detached(RuleCase):
    def test_plainly(self):
        self.detaches("x > y", "z", "y")
        self.detaches("x > x", "y > y", "y > y")
        self.detaches("x > ~ x", "y > z", "~ ( y > z )")
        self.detaches("( x > y ) > y > x", "a > b > a", "( b > a ) > a")
        self.detaches("~ x > x", "~ ( a > b )", "a > b")
        self.detaches("( x > y > z ) > ( x > y ) > x > z", "x > y > x", "( x > y ) > x > x")

    def test_the_second_formula_may_become_less_general(self):
        self.detaches("( x > x ) > x", "y > z", "y")
        self.detaches("~ ( x > x ) > ~ x", "y", "~ y")
        self.detaches("( ( x > x ) > y ) > y", "z > z", "x > x")

    def test_unknowns_of_both_are_unlike(self):
        self.detaches("( x > y ) > x > y", "y > x", "x > y")
        self.detaches("x > y > x", "x", "y > x")
        self.detaches("x > y > x", "y > x", "z > y > x")
        self.detaches("( x > y ) > x", "x > y > y", "x")
        self.detaches("x > y", "x > y", "z")

    def test_as_generally_as_can_be(self):
        self.detaches("( x > y ) > x > z", "~ a > ~ b", "~ a > c")
        self.detaches("( x > y > z ) > z > y > x", "a > a > b", "b > a > a")
        self.detaches("( ( x > y ) > ( y > z ) ) > z > x", "a > a", "x > x")

    def test_an_unknown_alone_first(self):
        self.detaches("x", "y", "z")
        self.detaches("x", "~ y", "z")
        self.detaches("x", "y > ~ z", "z")
        self.detaches("( x )", "x > x", "x")

    def test_an_unknown_alone_second(self):
        self.detaches("( x > ~ y ) > y", "z", "y")
        self.detaches("~ x > x", "z", "x")

    def test_denied_first(self):
        self.detaches_nothing("~ x", "x")
        self.detaches_nothing("~ ( x > y )", "x")
        self.detaches_nothing("~ ~ ( x > y )", "x > y")

    def test_two_that_cant_become_the_same(self):
        self.detaches_nothing("( x > y ) > y", "~ x")
        self.detaches_nothing("~ x > y", "x > y")
        self.detaches_nothing("( x > ~ x ) > y", "a > b > a")
        self.detaches_nothing("( ( x > x ) > ~ ~ x ) > y", "( ( a > b ) > c ) > ~ ( a > b )")

    def test_an_unknown_within_what_is_put_for_it(self):
        self.detaches_nothing("( x > x ) > y", "a > ~ a")
        self.detaches_nothing("( x > x ) > y", "a > a > b")
        self.detaches_nothing("( x > y > x ) > y", "( a > a ) > a > a")
        self.detaches_nothing("( x > x ) > y", "a > b > a")
        self.detaches_nothing("( x > y > ( x > y ) > z ) > z", "a > b > ~ a > b")
        self.detaches_nothing("( x > y > x > y ) > z", "a > ~ b > b > a")
        self.detaches_nothing("( ( x > ~ y ) > y > x ) > z", "a > a")

    def test_nearly_so(self):
        self.detaches("( x > x ) > x", "a > ~ b", "~ a")
        self.detaches("( x > y > x ) > y", "( a > b ) > a > c", "a")
        self.detaches("( x > y ) > x > y", "a > ~ a", "a > ~ a")

    def test_the_first_item_comes_first(self):
        text = "axiom f : ~ ~ x > x ; axiom s : ~ ~ ~ y ; row a : f, s ; row b : s, f ;"
        told_of = ask(load(text), general(2), general(3))
        self.assertEqual(told_of[1:], [[2, 1], [-5]])


class Limits(RuleCase):
    def doubled(self, more):
        """Two formulas that become the same with 999 signs and more."""
        start = "x > x > x > x"
        first = ["a"]
        second = [f"( {start} )"]
        for i in range(5):
            first.extend([f"( {'abcdef'[i]} > {'abcdef'[i]} )", "abcdef"[i + 1]])
            second.extend([f"z{i}", f"z{i}"])
        first[-1] = "~ " * more + first[-1]
        second[-1] = "~ " * more + second[-1]
        return f"( {' > '.join(first)} ) > g", " > ".join(second)

    def test_1000_signs_on_the_way(self):
        self.detaches(*self.doubled(0), "x")
        self.detaches(*self.doubled(1), "x")
        self.detaches_nothing(*self.doubled(2))
        self.detaches_nothing(*self.doubled(3))

    def test_the_other_signs_dont_count(self):
        first, second = self.doubled(1)
        self.detaches(first + " > h > h", second, "g > h > h")
        self.detaches_something(first.replace("> g", "> b > b"), second)

    def test_far_more_signs_on_the_way(self):
        first = ["a"]
        second = ["(" + implications(9) + ")"]
        for i in range(5):
            first.extend([f"( {'abcdef'[i]} > {'abcdef'[i]} )", "abcdef"[i + 1]])
            second.extend([f"z{i}", f"z{i}"])
        self.detaches_nothing(f"( {' > '.join(first)} ) > g", " > ".join(second))

    def test_60_signs_detached(self):
        self.detaches_something("x > ~ ( x > x )", implications(15))
        self.detaches_nothing("x > ~ ~ ( x > x )", implications(15))
        self.detaches_something("x > ~ ( x > x )", "~ " + implications(14))
        self.detaches_nothing("x > x > x", "~ " + implications(15))
        self.detaches_something("x > x > x", implications(15))
        self.detaches_nothing("x > ~ x > x", "~ " + implications(15))

    def test_60_signs_of_rows(self):
        text = f"axiom f : x > ~ x ; axiom m : {implications(20)} ; row r0 : f, m ;"
        text += "".join(f"row r{i + 1} : f, r{i} ;" for i in range(22))
        told_of = ask(load(text), *[general(item) for item in range(2, 25)])
        for item, answer in enumerate(told_of[1:], 2):
            self.assertEqual(answer, [item, 1] if 39 + item - 1 <= 60 else [-5], item)

    def test_an_unknown_alone_first_has_no_limits(self):
        text = f"axiom f : x > ~ x ; axiom m : ~ {implications(20)} ; axiom u : x ; row r0 : f, m ;"
        text += "".join(f"row r{i + 1} : f, r{i} ;" for i in range(20))
        text += "row a : u, r19 ; row b : a, r19 ; row c : u, r20 ;"
        told_of = ask(load(text), *[general(item) for item in range(21, 27)])
        self.assertEqual(told_of[1:], [[2, 1], [2, 1], [-5], [2, 3], [2, 3], [-5]])


class ManyPairs(RuleCase):
    def test_what_each_pair_detaches(self):
        source = random.Random(3)
        for _ in range(500):
            most = source.choice([4, 8, 20, 40])
            first = renumbered((">", random_formula(source, most // 2), random_formula(source, most // 2 - 1)))
            second = renumbered(random_formula(source, most))
            wanted = rule(first, second)
            if wanted is None:
                self.detaches_nothing(told(first), told(second))
            elif size(wanted) <= 40:
                self.detaches(told(first), told(second), told(wanted))


class RowsWithoutFormulas(unittest.TestCase):
    def test_rows_detached_from_them(self):
        text = "axiom u : x ; axiom n : ~ x ; row a : n, u ; row b : u, a ; row c : a, u ; row d : b, b ; row e : u, n ;"
        told_of = ask(load(text), *[general(item) for item in range(7)])
        self.assertEqual(told_of[1:], [[0, 2], [0, 1], [-5], [-5], [-5], [-5], [0, 2]])


class ManyRows(unittest.TestCase):
    def test_all_pairs_of_axioms(self):
        source = random.Random(11)
        for _ in range(60):
            most = source.choice([6, 12, 25, 40])
            axioms = [random_formula(source, most) for _ in range(4)]
            pairs = [(a, b) for a in range(4) for b in range(4)]
            pairs += [(source.randrange(4 + i), source.randrange(4 + i)) for i in range(8, 16)]
            proof = Proof(axioms, pairs, [])
            told_of = ask(load(proof.text()), *[general(item) for item in range(28)])
            self.assertEqual(told_of[1:], [proof.general_answer(item) for item in range(28)], proof.text())

    def test_many_texts(self):
        for proof in random_proofs(150):
            count = len(proof.formulas)
            told_of = ask(load(proof.text()), *[general(item) for item in range(count)])
            self.assertEqual(told_of[1:], [proof.general_answer(item) for item in range(count)], proof.text())


if __name__ == "__main__":
    unittest.main()
