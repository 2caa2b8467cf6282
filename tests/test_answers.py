import unittest

from contactways.cabinet import answers
from tests.calling import border, closers, first, load, matter, path, run, suffice, sums

TEXT = "in a\nrelay r at 2\nclose a 0 1\nopen r 1 2\n"
R = 1 << 16
# One of each call but load, and what it answers of TEXT, with how many numbers ahead of it.
ASKED = path(1, 2) + border(0) + suffice(1, R, 2) + sums(2) + first(1, 2) + matter(2)
TOLD = [3, 0, 0, 1, 2, 0, 0, 2, 0, 1, 3, 0, 1, R, 2, 0, 1 + R, 3, 0, 0, 16]
TOLD_OF_NEW = [1, -5, 1, 0, 2, 0, 0, 1, 0, 1, -5, 1, 0]


class Answers(unittest.TestCase):
    def test_lengths_and_numbers(self):
        calls = load(TEXT) + path(1, 2) + border(0) + suffice(1, 0, 1) + path(0, 1) + path(0, 0) + border(-1)
        self.assertEqual(answers(calls), [3, 0, 0, 0, 3, 0, 0, 1, 2, 0, 0, 2, 0, 1, 1, -5, 1, 0, 1, -1])

    def test_one_call(self):
        self.assertEqual(answers([1, 0]), [3, 0, 0, 0])
        self.assertEqual(answers([2, 0, 0]), [1, 0])
        self.assertEqual(answers([3, 0]), [1, 0])
        self.assertEqual(answers([4, 0, 0, 0]), [2, 0, 1])
        self.assertEqual(answers([5, 0]), [3, 0, 0, 0])
        self.assertEqual(answers([5, 1]), [1, 0])
        self.assertEqual(answers([6, 0, 1]), [2, 0, 0])
        self.assertEqual(answers([7, 0]), [1, 0])

    def test_all_calls_on_one_object(self):
        self.assertEqual(answers(ASKED), TOLD_OF_NEW)
        self.assertEqual(answers(load(TEXT) + ASKED), [3, 0, 0, 0] + TOLD)
        self.assertEqual(answers(ASKED + load(TEXT) + ASKED + ASKED), TOLD_OF_NEW + [3, 0, 0, 0] + TOLD + TOLD)

    def test_all_calls_behind_a_load_at_fault(self):
        others = (("in b\nopen b 0 2\n\n", [3, 0, 1, 2]), ("open b 0 2\nin b\n", [3, 0, 2, 1]),
                  ("in b\nin b\nopen b 0 2\n", [3, 0, 4, 1]), ("in b\nopen c 0 2\n", [3, 0, 5, 1]),
                  ([10] * 20001, [1, -1]))
        for text, told in others:
            self.assertEqual(answers(load(text) + ASKED), told + TOLD_OF_NEW)
            self.assertEqual(answers(load(TEXT) + load(text) + ASKED), [3, 0, 0, 0] + told + TOLD)
            self.assertEqual(answers(load(TEXT) + ASKED + load(text) + ASKED), [3, 0, 0, 0] + TOLD + told + TOLD)

    def test_how_many_numbers(self):
        calls = load(closers(6)) + sums(1) + sums(2) + first(1, 2) + first(2, 2) + matter(1) + matter(-1)
        told = [3, 0, 0, 0, 13, 0, 1, 0, 2, 0, 4, 0, 8, 0, 16, 0, 32, 0, 1, 0, 2, 0, 1, 1, -5, 7, 0, 0, 1, 2, 3, 4, 5, 1, -1]
        self.assertEqual(answers(calls), told)

    def test_refusals_are_one_number(self):
        calls = load(closers(9)) + sums(1) + first(1, 1) + matter(1) + sums(64) + first(0, 64) + matter(64) + border(0)
        told = [3, 0, 0, 0, 1, -9, 1, -9, 1, -9, 1, -1, 1, -1, 1, -1] + [10, 0] + list(range(9))
        self.assertEqual(answers(calls), told)

    def test_one_call_changes_nothing_for_the_others(self):
        each = [path(1, 2), border(0), suffice(1, R, 2), sums(2), first(1, 2), matter(2)]
        told = run(load(TEXT), *each)[1:]
        for before in range(6):
            for number in range(6):
                self.assertEqual(run(load(TEXT), each[before], each[number])[2], told[number], (before, number))

    def test_text_that_looks_like_calls(self):
        self.assertEqual(answers([1, 3, 2, 0, 0, 3, 0]), [3, 0, 1, 0, 1, 0])

    def test_what_is_handed_in_stays(self):
        calls = load(TEXT) + load(TEXT + "x") + path(1, 2) + border(0) + suffice(1, 1, 1) + path(-1, 64)
        calls += ASKED + load(closers(9)) + ASKED + first(0, 64) + load("") + ASKED
        before = list(calls)
        answers(calls)
        self.assertEqual(calls, before)

    def test_nothing_is_kept(self):
        asked = ASKED + suffice(1, 1, 1)
        before = answers(asked)
        loaded = answers(load(TEXT) + asked)
        other = answers(load(closers(6)) + asked)
        self.assertEqual(answers(asked), before)
        self.assertEqual(answers(load(TEXT) + asked), loaded)
        self.assertEqual(answers(load(closers(6)) + asked), other)
        self.assertEqual(answers(asked), before)

    def test_what_is_given_back_is_new(self):
        calls = load(TEXT) + ASKED
        told = answers(calls)
        kept = list(told)
        told.append(7)
        self.assertEqual(answers(calls), kept)

    def test_whole_numbers_alone(self):
        told = answers(load(TEXT) + path(1, 2) + border(0) + suffice(1, 0, 1) + suffice(0, 0, 1) + path(0, 1) + ASKED)
        self.assertEqual([number for number in told if type(number) is not int], [])
        self.assertIs(type(told), list)

    def test_most_calls(self):
        calls = [path(1, 2), border(0), suffice(1, 1 << 16, 2)] * 99
        told = run(load(TEXT), *calls, load(""), border(0))
        self.assertEqual(told, [[0, 0, 0]] + [[0, 0, 1], [0, 0], [0, 1]] * 99 + [[0, 0, 0], [0]])

    def test_most_calls_on_a_large_scheme(self):
        contacts = [f"{kind} i{node % 6} {node} {node + 1}\n" for node in range(63) for kind in ("close", "open")]
        text = closers(6) + "".join(contacts)
        told = run(load(text), *([sums(63), first(62, 63), matter(63)] * 99))
        self.assertEqual(told[1:4], [[0] + [number for on in range(64) for number in (on, 63 - on)], [-5], [0]])
        self.assertEqual(told[1:], told[1:4] * 99)

    def test_longest_list(self):
        calls = load([10] * 20100) + load("x" * 4800) + path(0, 0)
        self.assertLessEqual(len(calls), 25000)
        self.assertEqual(answers(calls), [1, -1, 3, 0, 1, 0, 1, 0])


if __name__ == "__main__":
    unittest.main()
