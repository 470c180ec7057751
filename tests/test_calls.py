"""The list of calls: how it's parted and answered, and what the object holds between them."""

import unittest

from shortproofs.proofs import answers
from helper import WORKED, ask, general, least, load, order, prune, short, shorten, shown, totals

FAR = 10**18

# Many rows, so that some are too many for least.
LONG = "axiom i : x > x ; row r0 : i, i ; " + "".join(f"row r{i + 1} : r{i}, r{i} ; " for i in range(9))


class BeforeAnyText(unittest.TestCase):
    def test_every_other_call_is_refused(self):
        calls = [shown(), prune(), prune(0), prune(-1, FAR), general(0), general(-FAR), shorten(), short(), totals()]
        calls = calls + [order([], []), order([7], [6, 4, 7]), order([-1], []), order([0], [FAR, -FAR])]
        calls = calls + [least(), least(0), least(*range(40)), least(-1), least(FAR)]
        for call in calls:
            self.assertEqual(ask(call), [[-1]])
        self.assertEqual(ask(*calls), [[-1]] * len(calls))

    def test_behind_a_faulty_text(self):
        told = ask(shown(), load("?"), shorten(), load("axiom k : x ;"), shorten())
        self.assertEqual(told, [[-1], [0, 2, 0], [-1], [1, 1, 0, 0], [0, 0, 0, 0]])

    def test_all_nine_behind_a_faulty_text(self):
        calls = [shown(), prune(0), general(0), shorten(), short(), order([0], []), least(0), totals()]
        told = ask(load("axiom k : x"), *calls, load("axiom k : x ;"), *calls)
        form = [15] + list(b"axiom k : x0 ;\n")
        self.assertEqual(told[:10], [[0, 3, 11]] + [[-1]] * 8 + [[1, 1, 0, 0]])
        self.assertEqual(told[10:], [form, [0], [0, 1], [0, 0, 0, 0], form, [1, 0], [0, 0], [0, 0, 0]])


class FlatLists(unittest.TestCase):
    def test_word_by_word(self):
        text = list(b"axiom k : x ;")
        line = [3, 0, 0, len(text)] + text + [1, 2, 0, 2, 3, 0, 0, 0, 2, 2, 0, 1, 3, 0, 3, 1, 4, 0, 0, 4]
        form = list(b"axiom k : x0 ;\n")
        wanted = [1, -1, 4, 1, 1, 0, 0, len(form) + 1, len(form)] + form
        wanted = wanted + [1, 0, 1, 0, 1, -2, 2, 0, 1, 1, -2, 4, 0, 0, 0, 0, 3, 0, 3, 0, 4, 0, 0, 0, 0]
        self.assertEqual(answers(line), wanted)

    def test_word_by_word_the_later_calls(self):
        text = list(b"axiom k : x ; row a : k, k ; row b : a, k ;")
        line = [8, 0, len(text)] + text + [6, 1, 2, 2, 1, 2, 6, 0, 0, 8, 6, 2, 0, 1, 1, 1, 7, 0, 7, 2, 2, 1, 6, 1, 8, 0]
        line = line + [5, 6, 0, 1, 7, 7, 1, -6, 6, 2, 1, 2, 3, 1, 2, 2, 8]
        form = list(b"axiom k : x0 ;\n")
        wanted = [1, -1, 4, 1, 1, 2, 0, 2, 1, 2, 2, 1, 0, 3, 0, 0, 0, 2, 1, 1, 2, 0, 0, 4, 2, 2, 1, 2, 1, -2]
        wanted = wanted + [16, 15] + form + [1, -2, 1, -2, 1, 0, 3, 0, 0, 0]
        self.assertEqual(answers(line), wanted)

    def test_numbers_of_calls_within_lists(self):
        told = ask(load(WORKED), prune(0, 1, 2, 3, 4), prune(4, 4, 4, 4), general(4))
        self.assertEqual(told[1:], [[3, 2, 3, 4], [1, 4], [2, 2]])

    def test_one_call(self):
        self.assertEqual(answers([4]), [1, -1])
        self.assertEqual(answers([5]), [1, -1])
        self.assertEqual(answers([8]), [1, -1])
        self.assertEqual(answers([7, 0]), [1, -1])
        self.assertEqual(answers([6, 0, 0]), [1, -1])
        self.assertEqual(answers([6, 1, 6, 2, 6, 6]), [1, -1])
        self.assertEqual(answers([0, 0]), [3, 0, 3, 0])

    def test_40_calls(self):
        calls = [load(WORKED)] + [shorten(), general(5), prune(7)] * 13
        told = ask(*calls)
        self.assertEqual(told, [[1, 2, 6, 2]] + [[3, 6, 2, 5, 1, 0, 2, 0, 0, 3], [3, 2], [3, 4, 6, 7]] * 13)

    def test_40_calls_of_all_kinds(self):
        each = [shown(), prune(7), general(5), shorten(), short()]
        each = each + [order([3, 7], [2, 3, 4, 6, 7]), least(3, 7), totals()]
        again = [call for call in reversed(each)]
        refused = [general(8), prune(-1), order([8], []), order([7], [6, 4, 7]), least(-1), load("?"), least(7)]
        calls = [load(WORKED)] + each + refused + each + [load(LONG), least(10)] + each[2:5] + [load(WORKED)] + again
        self.assertEqual(len(calls), 38)
        told = ask(totals(), *calls, least(9))
        wanted = [[3, 4, 6, 7], [3, 2], [3, 6, 2, 5, 1, 0, 2, 0, 0, 3]]
        self.assertEqual(told[0], [-1])
        self.assertEqual(told[3:6], wanted)
        self.assertEqual(told[7:10], [[1, 3], [3, 5, 2, 3, 4, 6, 7], [1, 2, 2]])
        self.assertEqual(told[10:17], [[-2], [-2], [-2], [0], [-2], [0, 2, 0], [2, 3, 4, 6, 7]])
        self.assertEqual(told[17:25], told[2:10])
        self.assertEqual(told[25:29], [[1, 1, 10, 0], [-7], [0, 11], [0, 10, 0, 0]])
        self.assertEqual(told[31:39], told[9:1:-1])
        self.assertEqual(told[39], [-2])

    def test_40_texts(self):
        calls = []
        for i in range(20):
            calls.extend([load(f"axiom k{i} : x ;" + "goal x ;" * (i % 5)), shown()])
        for i, (loaded, form) in enumerate(zip(ask(*calls)[::2], ask(*calls)[1::2])):
            self.assertEqual(loaded, [1, 1, 0, i % 5])
            self.assertEqual(bytes(form[1:]).decode(), f"axiom k{i} : x0 ;\n" + "goal x0 ;\n" * (i % 5))

    def test_the_greatest_list(self):
        line = load(WORKED + " " * (4096 - len(WORKED))) + prune(*([7] * 2000)) + load([35] * 8192)
        line = line + prune(*([3] * 1000))
        self.assertLessEqual(len(line), 16000)
        self.assertEqual(answers(line), [4, 1, 2, 6, 2, 4, 3, 4, 6, 7, 3, 0, 1, 4096, 3, 2, 2, 3])


    def test_the_greatest_list_of_the_later_calls(self):
        text = WORKED + " " * (4096 - len(WORKED))
        line = load(text) + order([7, 3] * 1000, [4] * 2000) + least(*[7, 3] * 1000) + order([0] * 2000, [])
        line = line + order([7] * 1700, [4, 6, 7]) + totals()
        self.assertLessEqual(len(line), 16000)
        wanted = [4, 1, 2, 6, 2, 1, 0, 7, 3, 5, 2, 3, 4, 6, 7, 2, 1, 0, 2, 1, 2, 3, 1, 2, 2]
        self.assertEqual(answers(line), wanted)


class NothingKept(unittest.TestCase):
    def test_each_list_is_a_new_object(self):
        self.assertEqual(ask(load(WORKED)), [[1, 2, 6, 2]])
        self.assertEqual(ask(shown()), [[-1]])
        self.assertEqual(ask(shorten(), load("axiom k : x ;")), [[-1], [1, 1, 0, 0]])

    def test_the_same_list_twice(self):
        line = load(WORKED) + shorten() + prune(7) + general(-1) + shown() + short() + least(3, 7) + totals()
        line = line + order([3, 7], [2, 3, 4, 6, 7])
        first = answers(line)
        first_copy = list(first)
        first.clear()
        self.assertEqual(answers(line), first_copy)

    def test_the_list_is_unchanged(self):
        line = load(WORKED) + prune(7, 3, 7) + shorten() + shown() + general(4) + load("?") + prune(9)
        line = line + short() + order([7, 7], [4, 6, 7]) + order([7], [7, 6, 4]) + least(7, 3, 7) + least(8) + totals()
        kept = list(line)
        answers(line)
        self.assertEqual(line, kept)

    def test_a_list_that_cant_be_changed(self):
        class Fixed(list):
            def refuse(self, *rest):
                raise AssertionError("changed")

            append = extend = insert = pop = remove = clear = sort = reverse = refuse
            __setitem__ = __delitem__ = __iadd__ = __imul__ = refuse

        plain = load(WORKED) + prune(7, 3, 7) + shorten() + shown() + general(4) + short() + totals()
        plain = plain + order([7, 7], [4, 6, 7]) + order([7], [7, 6, 4]) + least(7, 3, 7)
        self.assertEqual(answers(Fixed(plain)), answers(plain))


class Refusals(unittest.TestCase):
    def test_they_leave_the_object(self):
        refused = [general(-1), general(8), prune(8), prune(0, -1), general(FAR)]
        refused = refused + [order([8], []), order([], [-1]), order([7], [4, 6, FAR]), least(8), least(7, -FAR)]
        for call in refused:
            told = ask(load(WORKED), shown(), shorten(), totals(), call, shown(), shorten(), totals())
            self.assertEqual(told[4], [-2])
            self.assertEqual(told[5:], told[1:4])

    def test_too_many_rows_leave_the_object(self):
        told = ask(load(LONG), shown(), short(), totals(), least(10), shown(), short(), totals(), least(8))
        self.assertEqual(told[4], [-7])
        self.assertEqual(told[5:8], told[1:4])
        self.assertEqual(told[8], [2, 8, 1, 2, 3, 4, 5, 6, 7, 8])

    def test_a_faulty_text_leaves_the_object(self):
        asked = [shown(), short(), totals(), least(3, 7), order([7], [4, 6, 7])]
        for faulty in ["", "?", WORKED + "axiom k : x ;", "axiom k : x ; row a : k, b ;", " " * 5000]:
            told = ask(load(WORKED), *asked, load(faulty), *asked)
            self.assertEqual(told[6][0], 0)
            self.assertEqual(told[7:], told[1:6])

    def test_calls_leave_the_object(self):
        calls = [shorten(), prune(7), prune(), general(4), shown(), short(), totals(), least(3, 7), least()]
        calls = calls + [order([3, 7], [2, 3, 4, 6, 7]), order([7], [6, 4, 7]), order([], [])]
        for call in calls:
            told = ask(load(WORKED), shown(), call, call, shown())
            self.assertEqual(told[1], told[4])
            self.assertEqual(told[2], told[3])


if __name__ == "__main__":
    unittest.main()
