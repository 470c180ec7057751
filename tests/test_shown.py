"""shown: the one form."""

import random
import unittest

from helper import WORKED, Proof, ask, ask_last, form, load, random_formula, random_proofs, shown


class OneForm(unittest.TestCase):
    def shows(self, formula, wanted):
        self.assertEqual(form(f"axiom k : {formula} ;"), f"axiom k : {wanted} ;\n")
        self.assertEqual(form(f"axiom k : x ; goal {formula} ;"), f"axiom k : x0 ;\ngoal {wanted} ;\n")

    def test_brackets_only_where_they_are_needed(self):
        self.shows("( x )", "x0")
        self.shows("~ ( x )", "~ x0")
        self.shows("~ ( ~ x )", "~ ~ x0")
        self.shows("~(x>y)", "~ ( x0 > x1 )")
        self.shows("~ ~ ( x > y )", "~ ~ ( x0 > x1 )")
        self.shows("( x > y )", "x0 > x1")
        self.shows("x > ( y > z )", "x0 > x1 > x2")
        self.shows("( x > y ) > z", "( x0 > x1 ) > x2")
        self.shows("( ( x > y ) > z ) > w", "( ( x0 > x1 ) > x2 ) > x3")
        self.shows("( ~ x ) > ( ~ y )", "~ x0 > ~ x1")
        self.shows("( ~ ( x > y ) ) > z", "~ ( x0 > x1 ) > x2")
        self.shows("( x > ( y > z ) ) > ( ( x > y ) > ( x > z ) )", "( x0 > x1 > x2 ) > ( x0 > x1 ) > x0 > x2")
        self.shows("x > ( ~ ( ( y > z ) > x ) > y )", "x0 > ~ ( ( x1 > x2 ) > x0 ) > x1")

    def test_unknowns_by_their_numbers(self):
        self.shows("b > a > b", "x0 > x1 > x0")
        self.shows("x1 > x0 > x1", "x0 > x1 > x0")
        self.shows("k > K > k > KK", "x0 > x1 > x0 > x2")
        self.shows("x7", "x0")
        many = " > ".join(f"u{i}" for i in range(20))
        self.shows(many, " > ".join(f"x{i}" for i in range(20)))

    def test_unknowns_count_only_within_their_formula(self):
        text = "axiom k : b > a ; axiom s : a > b ; goal b ; goal a > b ;"
        wanted = "axiom k : x0 > x1 ;\naxiom s : x0 > x1 ;\ngoal x0 ;\ngoal x0 > x1 ;\n"
        self.assertEqual(form(text), wanted)

    def test_names_of_items_are_kept(self):
        text = "axiom x9 : y ; axiom Q : ~ y ; row x0 : x9,Q;row abcdefghijklmnop : x0,x0;"
        wanted = "axiom x9 : x0 ;\naxiom Q : ~ x0 ;\nrow x0 : x9, Q ;\nrow abcdefghijklmnop : x0, x0 ;\n"
        self.assertEqual(form(text), wanted)

    def test_rows_without_a_formula_are_shown(self):
        self.assertEqual(form("axiom n : ~ x ; row a : n, n ;"), "axiom n : ~ x0 ;\nrow a : n, n ;\n")

    def test_goals_twice(self):
        self.assertEqual(form("axiom n : x ; goal y ; goal z ;"), "axiom n : x0 ;\ngoal x0 ;\ngoal x0 ;\n")

    def test_how_many_bytes(self):
        self.assertEqual(ask_last(load("axiom k : x ;"), shown()), [15] + list(b"axiom k : x0 ;\n"))


class LoadedAgain(unittest.TestCase):
    def same_again(self, text):
        once = form(text)
        self.assertEqual(form(once), once)

    def test_plain_texts(self):
        self.same_again(WORKED)
        self.same_again("axiom k : " + "( " * 40 + "x" + " )" * 40 + " ;")
        self.same_again("axiom k : " + "~ " * 39 + "x ;")

    def test_the_longest(self):
        deep = "~ ( " + "( ~ " * 8 + "y" + "".join(f" > u{i} )" for i in range(8)) + " > z ) > v"
        axioms = "".join(f"axiom abcdefghijklmno{i} : {deep} ;" for i in range(6))
        rows = "".join(f"row ABCDEFGHIJKLMN{i} : abcdefghijklmno0, abcdefghijklmno1 ;" for i in range(10, 34))
        text = axioms + rows + f"goal {deep} ;" * 4
        if len(text) > 4096:
            text = text.replace(" : ", ":").replace(" ;", ";").replace(", ", ",").replace(" ) ", ")").replace(" > ", ">")
        self.assertEqual(ask(load(text))[0], [1, 6, 24, 4])
        self.assertLess(len(form(text)), 4096)
        self.same_again(text)

    def test_many_formulas(self):
        source = random.Random(7)
        for _ in range(200):
            axioms = [random_formula(source, source.randrange(1, 41)) for _ in range(6)]
            text = Proof(axioms, [], axioms[:4]).text()
            self.assertEqual(form(text), text)

    def test_many_texts(self):
        for proof in random_proofs(60):
            self.assertEqual(form(proof.text()), proof.text())


if __name__ == "__main__":
    unittest.main()
