"""The list of calls: how it's parted and answered, and what the object holds between them."""

import unittest

from shortproofs.proofs import answers
from helper import WORKED, ask, general, load, prune, shorten, shown

FAR = 10**18


class BeforeAnyText(unittest.TestCase):
    def test_every_other_call_is_refused(self):
        calls = [shown(), prune(), prune(0), prune(-1, FAR), general(0), general(-FAR), shorten()]
        for call in calls:
            self.assertEqual(ask(call), [[-1]])
        self.assertEqual(ask(*calls), [[-1]] * len(calls))

    def test_behind_a_faulty_text(self):
        told = ask(shown(), load("?"), shorten(), load("axiom k : x ;"), shorten())
        self.assertEqual(told, [[-1], [0, 2, 0], [-1], [1, 1, 0, 0], [0, 0, 0, 0]])


class FlatLists(unittest.TestCase):
    def test_word_by_word(self):
        text = list(b"axiom k : x ;")
        line = [3, 0, 0, len(text)] + text + [1, 2, 0, 2, 3, 0, 0, 0, 2, 2, 0, 1, 3, 0, 3, 1, 4, 0, 0, 4]
        form = list(b"axiom k : x0 ;\n")
        wanted = [1, -1, 4, 1, 1, 0, 0, len(form) + 1, len(form)] + form
        wanted = wanted + [1, 0, 1, 0, 1, -2, 2, 0, 1, 1, -2, 4, 0, 0, 0, 0, 3, 0, 3, 0, 4, 0, 0, 0, 0]
        self.assertEqual(answers(line), wanted)

    def test_numbers_of_calls_within_lists(self):
        told = ask(load(WORKED), prune(0, 1, 2, 3, 4), prune(4, 4, 4, 4), general(4))
        self.assertEqual(told[1:], [[3, 2, 3, 4], [1, 4], [2, 2]])

    def test_one_call(self):
        self.assertEqual(answers([4]), [1, -1])
        self.assertEqual(answers([0, 0]), [3, 0, 3, 0])

    def test_40_calls(self):
        calls = [load(WORKED)] + [shorten(), general(5), prune(7)] * 13
        told = ask(*calls)
        self.assertEqual(told, [[1, 2, 6, 2]] + [[3, 6, 2, 5, 1, 0, 2, 0, 0, 3], [3, 2], [3, 4, 6, 7]] * 13)

    def test_40_texts(self):
        calls = []
        for i in range(20):
            calls.extend([load(f"axiom k{i} : x ;" + "goal x ;" * (i % 5)), shown()])
        for i, (loaded, form) in enumerate(zip(ask(*calls)[::2], ask(*calls)[1::2])):
            self.assertEqual(loaded, [1, 1, 0, i % 5])
            self.assertEqual(bytes(form[1:]).decode(), f"axiom k{i} : x0 ;\n" + "goal x0 ;\n" * (i % 5))

    def test_the_greatest_list(self):
        line = load(WORKED + " " * (4096 - len(WORKED))) + prune(*([7] * 2000)) + load([35] * 8192)
        line = line + prune(*([3] * 1000))
        self.assertLessEqual(len(line), 16000)
        self.assertEqual(answers(line), [4, 1, 2, 6, 2, 4, 3, 4, 6, 7, 3, 0, 1, 4096, 3, 2, 2, 3])


class NothingKept(unittest.TestCase):
    def test_each_list_is_a_new_object(self):
        self.assertEqual(ask(load(WORKED)), [[1, 2, 6, 2]])
        self.assertEqual(ask(shown()), [[-1]])
        self.assertEqual(ask(shorten(), load("axiom k : x ;")), [[-1], [1, 1, 0, 0]])

    def test_the_same_list_twice(self):
        line = load(WORKED) + shorten() + prune(7) + general(-1) + shown()
        first = answers(line)
        first_copy = list(first)
        first.clear()
        self.assertEqual(answers(line), first_copy)

    def test_the_list_is_unchanged(self):
        line = load(WORKED) + prune(7, 3, 7) + shorten() + shown() + general(4) + load("?") + prune(9)
        kept = list(line)
        answers(line)
        self.assertEqual(line, kept)

    def test_a_list_that_cant_be_changed(self):
        class Fixed(list):
            def refuse(self, *rest):
                raise AssertionError("changed")

            append = extend = insert = pop = remove = clear = sort = reverse = refuse
            __setitem__ = __delitem__ = __iadd__ = __imul__ = refuse

        line = Fixed(load(WORKED) + prune(7, 3, 7) + shorten() + shown() + general(4))
        self.assertEqual(answers(line), answers(list(line)))


class Refusals(unittest.TestCase):
    def test_they_leave_the_object(self):
        for refused in [general(-1), general(8), prune(8), prune(0, -1), general(FAR)]:
            told = ask(load(WORKED), shown(), shorten(), refused, shown(), shorten())
            self.assertEqual(told[3], [-2])
            self.assertEqual(told[4:], told[1:3])

    def test_calls_leave_the_object(self):
        for call in [shorten(), prune(7), prune(), general(4), shown()]:
            told = ask(load(WORKED), shown(), call, call, shown())
            self.assertEqual(told[1], told[4])
            self.assertEqual(told[2], told[3])


if __name__ == "__main__":
    unittest.main()
