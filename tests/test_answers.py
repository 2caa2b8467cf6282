import unittest

from contactways.cabinet import answers
from tests.calling import border, load, path, run, suffice

TEXT = "in a\nrelay r at 2\nclose a 0 1\nopen r 1 2\n"


class Answers(unittest.TestCase):
    def test_lengths_and_numbers(self):
        calls = load(TEXT) + path(1, 2) + border(0) + suffice(1, 0, 1) + path(0, 1) + path(0, 0) + border(-1)
        self.assertEqual(answers(calls), [3, 0, 0, 0, 3, 0, 0, 1, 2, 0, 0, 2, 0, 1, 1, -5, 1, 0, 1, -1])

    def test_one_call(self):
        self.assertEqual(answers([1, 0]), [3, 0, 0, 0])
        self.assertEqual(answers([2, 0, 0]), [1, 0])
        self.assertEqual(answers([3, 0]), [1, 0])
        self.assertEqual(answers([4, 0, 0, 0]), [2, 0, 1])

    def test_text_that_looks_like_calls(self):
        self.assertEqual(answers([1, 3, 2, 0, 0, 3, 0]), [3, 0, 1, 0, 1, 0])

    def test_what_is_handed_in_stays(self):
        calls = load(TEXT) + load(TEXT + "x") + path(1, 2) + border(0) + suffice(1, 1, 1) + path(-1, 64)
        before = list(calls)
        answers(calls)
        self.assertEqual(calls, before)

    def test_nothing_is_kept(self):
        asked = path(1, 2) + border(0) + suffice(1, 1, 1)
        before = answers(asked)
        first = answers(load(TEXT) + asked)
        self.assertEqual(answers(asked), before)
        self.assertEqual(answers(load(TEXT) + asked), first)

    def test_what_is_given_back_is_new(self):
        calls = load(TEXT) + path(1, 2) + border(0)
        first = answers(calls)
        kept = list(first)
        first.append(7)
        self.assertEqual(answers(calls), kept)

    def test_whole_numbers_alone(self):
        told = answers(load(TEXT) + path(1, 2) + border(0) + suffice(1, 0, 1) + suffice(0, 0, 1) + path(0, 1))
        self.assertEqual([number for number in told if type(number) is not int], [])
        self.assertIs(type(told), list)

    def test_most_calls(self):
        calls = [path(1, 2), border(0), suffice(1, 1 << 16, 2)] * 99
        told = run(load(TEXT), *calls, load(""), border(0))
        self.assertEqual(told, [[0, 0, 0]] + [[0, 0, 1], [0, 0], [0, 1]] * 99 + [[0, 0, 0], [0]])

    def test_longest_list(self):
        calls = load([10] * 20100) + load("x" * 4800) + path(0, 0)
        self.assertLessEqual(len(calls), 25000)
        self.assertEqual(answers(calls), [1, -1, 3, 0, 1, 0, 1, 0])


if __name__ == "__main__":
    unittest.main()
