"""load: what's wrong with a text, and where.

In the texts here a ^ stands ahead of the fault's place; it's taken out before the text is loaded.
"""

import unittest

from helper import ask, ask_last, load, to_bytes

TOO_LONG_NAME = "abcdefghijklmnopq"


def implications(count):
    return " > ".join(["x"] * count)


class FaultCase(unittest.TestCase):
    def fault(self, code, marked):
        told = to_bytes(marked)
        place = told.index(ord("^"))
        text = told[:place] + told[place + 1 :]
        self.assertEqual(ask_last(load(text)), [0, code, place], marked)


class TooLong(FaultCase):
    def test_more_than_4096_bytes(self):
        text = "axiom k : x ;"
        for count in [4097, 4098, 8192]:
            self.assertEqual(ask_last(load(text + " " * (count - len(text)))), [0, 1, 4096])

    def test_told_before_all_else(self):
        self.assertEqual(ask_last(load([255] * 4097)), [0, 1, 4096])
        self.assertEqual(ask_last(load("row " * 2000)), [0, 1, 4096])
        self.assertEqual(ask_last(load([255] * 4096)), [0, 2, 0])

    def test_4096_bytes_have_other_faults(self):
        text = "axiom k : x"
        self.assertEqual(ask_last(load(text + " " * (4096 - len(text)))), [0, 3, 4096])


class NoToken(FaultCase):
    def test_names_too_long(self):
        self.fault(2, f"axiom ^{TOO_LONG_NAME} : x ;")
        self.fault(2, f"axiom k : ^{TOO_LONG_NAME} ;")
        self.fault(2, f"^{'axiom' * 4} k : x ;")
        self.fault(2, f"axiom k : x ; row a : k, ^{'a' * 4000} ;")
        self.fault(2, "axiom k : ^a1234567890123456 ;")

    def test_numbers_too_great(self):
        self.fault(2, "axiom k : ^1000000001 ;")
        self.fault(2, "^2000000000")
        self.fault(2, "^" + "9" * 4096)
        self.fault(2, "axiom k : ^10000000000 ;")

    def test_numbers_with_needless_zeros(self):
        for number in ["00", "01", "007", "0000000001", "01000000000"]:
            self.fault(2, f"axiom k : ^{number} ;")

    def test_every_byte_that_begins_no_token(self):
        right = set(b" \t\n#(),:;>~") | set(b"0123456789")
        right |= set(range(ord("a"), ord("z") + 1)) | set(range(ord("A"), ord("Z") + 1))
        for byte in range(256):
            told = list(b"axiom k : x ; ") + [byte]
            if byte not in right:
                self.assertEqual(ask_last(load(told)), [0, 2, 14], byte)
            else:
                self.assertNotEqual(ask_last(load(told))[:2], [0, 2], byte)

    def test_within_a_name(self):
        for byte in [0, 13, 39, 45, 95, 128, 170, 178, 181, 195, 255]:
            told = list(b"axiom k") + [byte] + list(b"k : x ;")
            self.assertEqual(ask_last(load(told)), [0, 2, 7], byte)

    def test_the_first_such_place(self):
        self.fault(2, f"axiom ^? k : {TOO_LONG_NAME} 01 ;")
        self.fault(2, f"axiom ^{TOO_LONG_NAME} : ? ;")
        self.fault(2, "^01 ?")

    def test_told_before_what_stands_earlier(self):
        self.fault(2, "row goal ; ; axiom k : ^?")
        self.fault(2, "axiom k : x ; axiom k : x ; row q : r, ^007")
        self.fault(2, f"axiom k : {implications(30)} ; ^%")
        self.fault(2, "axiom k : " + "( " * 50 + f"^{TOO_LONG_NAME}")

    def test_not_within_remarks(self):
        self.assertEqual(ask_last(load(f"# ? 007 {TOO_LONG_NAME} \x80\naxiom k : x ;# 01")), [1, 1, 0, 0])
        self.fault(2, "# ?\n^?")

    def test_what_a_word_parts(self):
        self.fault(3, "axiom k : ^1x ;")
        self.fault(3, "axiom k : ^0x ;")
        self.fault(3, "axiom k : x ^1 ;")


class NotAllowed(FaultCase):
    def test_no_axiom_at_all(self):
        self.fault(3, "^")
        self.fault(3, " \n\t^")
        self.fault(3, "# nothing^")
        self.fault(3, "# nothing\n^")
        self.fault(3, "^row a : k, k ;")
        self.fault(3, "^goal x ;")
        self.fault(3, "^k : x ;")
        self.fault(3, "^;")

    def test_numbers(self):
        for number in ["0", "1", "10", "999999999", "1000000000"]:
            self.fault(3, f"^{number}")
            self.fault(3, f"axiom ^{number} : x ;")
            self.fault(3, f"axiom k : ^{number} ;")
            self.fault(3, f"axiom k : x ; row a : ^{number}, k ;")
            self.fault(3, f"axiom k : x ; ^{number}")

    def test_reserved_words_as_names(self):
        for word in ["axiom", "row", "goal"]:
            self.fault(3, f"axiom ^{word} : x ;")
            self.fault(3, f"axiom k : ^{word} ;")
            self.fault(3, f"axiom k : x > ^{word} ;")
            self.fault(3, f"axiom k : x ; row ^{word} : k, k ;")
            self.fault(3, f"axiom k : x ; row a : ^{word}, k ;")
            self.fault(3, f"axiom k : x ; row a : k, ^{word} ;")
            self.fault(3, f"axiom k : x ; goal ^{word} ;")

    def test_the_text_ends_too_early(self):
        words = "axiom k : ( x > ~ y ) > x ; row a : k , k ; goal x ;".split(" ")
        right = [words.index(";") + 1, words.index("row") + 7, len(words)]
        for count in range(len(words) + 1):
            if count not in right:
                self.fault(3, " ".join(words[:count]) + " # end\n ^")
            else:
                self.assertEqual(ask_last(load(" ".join(words[:count])))[0], 1)

    def test_another_sign_at_every_token(self):
        words = "axiom k : ( x > ~ y ) > x ; row a : k , k ; goal x ;".split(" ")
        for at in range(len(words)):
            for wrong in ["5", ":" if words[at] != ":" else ","]:
                self.fault(3, " ".join(words[:at] + ["^" + wrong] + words[at + 1 :]))

    def test_formulas(self):
        for formula in ["^;", "^> x ;", "x ^x ;", "x > ^;", "x > ^> x ;", "~ ^;", "~ ^> x ;", "x ^~ x ;", "x ^( x ) ;"]:
            self.fault(3, f"axiom k : {formula}")
            self.fault(3, f"axiom k : x ; goal {formula}")
        for formula in ["( ^) ;", "( x ^;", "( x > ^) ;", "x ^) ;", "( x ) ^) ;", "( x ) ^x ;", "( ( x ) ^;", "^) ;"]:
            self.fault(3, f"axiom k : {formula}")
            self.fault(3, f"axiom k : x ; goal {formula}")

    def test_parts_of_statements(self):
        self.fault(3, "axiom k ^x ;")
        self.fault(3, "axiom ^: x ;")
        self.fault(3, "axiom k : x ^axiom s : x ;")
        self.fault(3, "axiom k : x ^, x ;")
        self.fault(3, "axiom k : x ; row a ^k, k ;")
        self.fault(3, "axiom k : x ; row a : k ^k ;")
        self.fault(3, "axiom k : x ; row a : k ^;")
        self.fault(3, "axiom k : x ; row a : k, ^, k ;")
        self.fault(3, "axiom k : x ; row a : k, k ^, k ;")
        self.fault(3, "axiom k : x ; row a : k, k ^row b : k, k ;")
        self.fault(3, "axiom k : x ; goal x ^: x ;")
        self.fault(3, "axiom k : x ; ^;")
        self.fault(3, "axiom k : x ; ^k")
        self.fault(3, "axiom k : x ; ^Row a : k, k ;")

    def test_axioms_then_rows_then_goals(self):
        self.fault(3, "axiom k : x ; row a : k, k ; ^axiom s : x ;")
        self.fault(3, "axiom k : x ; goal x ; ^axiom s : x ;")
        self.fault(3, "axiom k : x ; goal x ; ^row a : k, k ;")
        self.fault(3, "axiom k : x ; row a : k, k ; goal x ; ^row b : k, k ;")
        self.fault(3, "axiom k : x ; goal x ; ^k")


class OneTooMany(FaultCase):
    axioms = "".join(f"axiom a{i} : x ; " for i in range(6))
    rows = "".join(f"row r{i} : a0, a0 ; " for i in range(24))
    goals = "goal x ; " * 4

    def test_a_seventh_axiom(self):
        self.fault(4, self.axioms + "^axiom a6 : x ;")
        self.fault(4, self.axioms + "^axiom ; 5")
        self.fault(4, self.axioms + "^axiom")

    def test_a_twenty_fifth_row(self):
        self.fault(4, self.axioms + self.rows + "^row r24 : a0, a0 ;")
        self.fault(4, "axiom a0 : x ;" + self.rows + "^row r0 : q")

    def test_a_fifth_goal(self):
        self.fault(4, self.axioms + self.rows + self.goals + "^goal x ;")
        self.fault(4, self.axioms + self.goals + "^goal")

    def test_where_such_a_word_is_not_allowed_at_all(self):
        self.fault(3, self.axioms + "row r : a0, a0 ; ^axiom a6 : x ;")
        self.fault(3, self.axioms + self.rows + "goal x ; ^row r24 : a0, a0 ;")
        self.fault(3, self.axioms + self.goals + "^axiom a6 : x ;")
        self.fault(3, self.axioms + self.goals + "^row r : a0, a0 ;")


class Names(FaultCase):
    def test_there_already(self):
        self.fault(5, "axiom k : x ; axiom ^k : x ;")
        self.fault(5, "axiom k : x ; axiom s : x ; axiom ^k : x ;")
        self.fault(5, "axiom k : x ; row ^k : k, k ;")
        self.fault(5, "axiom k : x ; row a : k, k ; row ^a : k, k ;")
        self.fault(5, "axiom k : x ; row a : k, k ; row b : k, k ; row ^a : a, a ;")

    def test_there_already_is_told_at_the_name(self):
        self.fault(5, "axiom k : x ; axiom ^k 5")
        self.fault(5, "axiom k : x ; row ^k : q, q ;")

    def test_not_there_yet(self):
        self.fault(8, "axiom k : x ; row a : ^q, k ;")
        self.fault(8, "axiom k : x ; row a : k, ^q ;")
        self.fault(8, "axiom k : x ; row a : ^x, k ;")
        self.fault(8, "axiom k : x ; row a : ^K, k ;")
        self.fault(8, "axiom k : x ; row a : ^kk, k ;")
        self.fault(8, "axiom k : x ; row a : ^q, r ;")

    def test_a_later_row(self):
        self.fault(8, "axiom k : x ; row a : ^b, k ; row b : k, k ;")
        self.fault(8, "axiom k : x ; row a : k, k ; row b : a, ^c ; row c : a, a ;")

    def test_a_rows_own_name(self):
        self.fault(8, "axiom k : x ; row a : ^a, k ;")
        self.fault(8, "axiom k : x ; row a : k, ^a ;")

    def test_from_left_to_right(self):
        self.fault(8, "axiom k : x ; row a : ^q 5")
        self.fault(3, "axiom k : x ; row a ^, q ;")
        self.fault(5, "axiom k : x ; axiom ^k : > ;")
        self.fault(3, "axiom k : ^> ; axiom k : x ;")
        self.fault(8, "axiom k : x ; row a : ^q, k ; row a : k, k ;")


class TooManySigns(FaultCase):
    def test_41_signs(self):
        self.fault(9, f"axiom k : ^{implications(21)} ;")
        self.fault(9, f"axiom k : x ; goal ^{implications(21)} ;")
        self.fault(9, f"axiom k : ^~ ~ {implications(20)} ;")
        self.fault(9, f"axiom k : ^( ( {implications(21)} ) ) ;")
        self.fault(9, "axiom k : ^( x > x ) > ~ " + "( x > x ) > " * 9 + "x ;")
        self.fault(9, f"axiom k : ~ {implications(20)} ; axiom s : ^{implications(21)} ;")

    def test_many_more(self):
        self.fault(9, "axiom k : ^" + "~ x > " * 39 + "x ;")
        part = "( x > x > x > x > x ) > "
        self.fault(9, "axiom k : ^" + part * 36 + "x ;")

    def test_told_when_the_end_has_been_read(self):
        self.fault(3, f"axiom k : {implications(21)} ^:")
        self.fault(3, f"axiom k : {implications(21)} ^")
        self.fault(3, f"axiom k : {implications(21)} ^) ;")
        self.fault(3, f"axiom k : ( {implications(21)} ^;")
        self.fault(3, f"axiom k : {implications(21)} > ^;")
        self.fault(10, f"axiom k : {implications(41)} ^> x ;")
        self.fault(10, f"axiom k : {implications(21)} > " + "( " * 19 + "^~ x ;")

    def test_before_what_follows(self):
        self.fault(9, f"axiom k : ^{implications(21)} ; 5")
        self.fault(9, f"axiom k : ^{implications(21)} ; axiom k : x ;")
        self.fault(9, f"axiom k : x ; goal ^{implications(21)} ; goal {'( ' * 41}")

    def test_behind_what_stands_ahead(self):
        self.fault(5, f"axiom k : x ; axiom ^k : {implications(21)} ;")
        self.fault(3, f"axiom k ^{implications(21)} ;")


class TooDeep(FaultCase):
    def test_brackets(self):
        self.fault(10, "axiom k : " + "( " * 40 + "^( x" + " )" * 41 + " ;")
        self.fault(10, "axiom k : x ; goal " + "( " * 40 + "^( x" + " )" * 41 + " ;")
        self.fault(10, "axiom k : " + "( " * 40 + "^(" + " (" * 1000)

    def test_denials(self):
        self.fault(10, "axiom k : " + "~ " * 40 + "^~ x ;")
        self.fault(10, "axiom k : " + "( " * 40 + "^~ x" + " )" * 40 + " ;")
        self.fault(10, "axiom k : " + "~ ( " * 20 + "^~ x" + " )" * 20 + " ;")

    def test_implications(self):
        self.fault(10, f"axiom k : {implications(41)} ^> x ;")
        self.fault(10, "axiom k : " + "( " * 40 + "x ^> y" + " )" * 40 + " ;")
        self.fault(10, "axiom k : " + "x > ( " * 20 + "x ^> y" + " )" * 20 + " ;")
        self.fault(10, "axiom k : " + "x > ( " * 20 + "^~ y" + " )" * 20 + " ;")
        self.fault(10, "axiom k : x > " + "( " * 39 + "^( y" + " )" * 40 + " ;")

    def test_what_has_ended_doesnt_count(self):
        self.fault(10, "axiom k : ( " + "~ " * 39 + "x > x ) > " + "( " * 39 + "^( x ;")
        self.fault(10, "axiom k : ~ ~ ~ x > " + "( " * 39 + "^~ x ;")
        self.fault(10, "axiom k : ( x > x > x ) > " + "( " * 39 + "y ^> z ;")
        self.fault(10, "axiom k : ~ " + "( " * 39 + "x ^> x" + " )" * 39 + " ;")

    def test_where_such_a_sign_is_not_allowed_at_all(self):
        self.fault(3, "axiom k : " + "( " * 40 + "^> x")
        self.fault(3, "axiom k : " + "( " * 40 + "x ^~ x")
        self.fault(3, "axiom k : " + "( " * 40 + "x ^( x")
        self.fault(3, "axiom k : " + "( " * 40 + "x ^;")


class LeftAsItWas(unittest.TestCase):
    def test_a_faulty_text_behind_a_right_one(self):
        text = "axiom k : x > y > x ; row a : k, k ; goal x > x ;"
        faulty = ["", "?", "axiom k : ", "row", "axiom k : x ; axiom k : x ;", "axiom n : ~ x ; row k : q, k ;", " " * 5000]
        for other in faulty:
            told = ask(load(text), [1], load(other), [1], [4], [2, 1, 1], [3, 1])
            self.assertEqual(told[2][0], 0)
            self.assertEqual(told[3], told[1])
            self.assertEqual(told[4:], ask(load(text), [4], [2, 1, 1], [3, 1])[1:])

    def test_a_faulty_text_first(self):
        self.assertEqual(ask(load("axiom k : x ; goal"), [1], [2, 0]), [[0, 3, 18], [-1], [-1]])


if __name__ == "__main__":
    unittest.main()
