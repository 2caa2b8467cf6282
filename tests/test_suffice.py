import unittest

from tests.calling import on_scheme, run, suffice
from tests.test_path import BAD_NODES, WIDE

R = 1 << 16


class Suffice(unittest.TestCase):
    def test_closer(self):
        text = "in a\nclose a 0 1\n"
        self.assertEqual(on_scheme(text, suffice(1, 0, 1), suffice(0, 0, 1), suffice(0, 1, 1)), [[0, 1], [0, 0], [0, 0]])

    def test_opener(self):
        text = "in a\nopen a 0 1\n"
        self.assertEqual(on_scheme(text, suffice(0, 1, 1), suffice(0, 0, 1), suffice(1, 0, 1)), [[0, 1], [0, 0], [0, 0]])

    def test_closer_and_opener(self):
        text = "in a\nrelay r at 1\nclose a 0 1\nopen r 1 2\n"
        told = on_scheme(text, suffice(1, R, 2), suffice(1, 0, 2), suffice(0, R, 2), suffice(1, 0, 1), suffice(R, 1, 2))
        self.assertEqual(told, [[0, 1], [0, 0], [0, 0], [0, 1], [0, 0]])

    def test_whatever_the_others_are_is_not_asked(self):
        # In every state node 1 is live, but no condition is told that leads there by itself.
        text = "in a\nclose a 0 1\nopen a 0 1\n"
        self.assertEqual(on_scheme(text, suffice(0, 0, 1), suffice(1, 0, 1), suffice(0, 1, 1)), [[0, 0], [0, 1], [0, 1]])

    def test_more_than_needed(self):
        text = "in a\nin b\nin c\nclose a 0 1\nopen b 1 2\n"
        self.assertEqual(on_scheme(text, suffice(5, 2, 2), suffice(1, 6, 2)), [[0, 1], [0, 1]])

    def test_either_direction(self):
        text = "in a\nin b\nclose a 0 9\nopen b 2 9\n"
        self.assertEqual(on_scheme(text, suffice(1, 2, 2), suffice(1, 0, 2), suffice(0, 2, 2)), [[0, 1], [0, 0], [0, 0]])

    def test_rail(self):
        text = "in a\nclose a 0 1\n"
        self.assertEqual(on_scheme(text, suffice(0, 0, 0), suffice(0, 1, 0), suffice(1, 1, 0)), [[0, 1], [0, 1], [-5]])

    def test_on_and_off(self):
        text = "in a\nin b\nrelay r at 1\nclose a 0 1\n"
        told = on_scheme(text, suffice(1, 1, 1), suffice(3, 2, 1), suffice(R + 1, R, 1), suffice(1, 2 + R, 1))
        self.assertEqual(told, [[-5], [-5], [-5], [0, 1]])

    def test_on_and_off_of_a_variable_without_contacts(self):
        self.assertEqual(on_scheme("in a\n", suffice(1, 1, 0), suffice(2, 2, 0)), [[-5], [0, 1]])

    def test_bits_of_no_variable(self):
        text = "in a\nrelay r at 1\nclose a 0 1\nopen r 1 2\n"
        others = (2**32 - 1) - 1 - R
        told = on_scheme(text, suffice(others, others, 1), suffice(others + 1, others, 1),
                         suffice(others + 1, others + R, 2), suffice(others + 1, others + 1, 1))
        self.assertEqual(told, [[0, 0], [0, 1], [0, 1], [-5]])

    def test_every_bit_on_and_off(self):
        text = "".join([f"in i{number}\n" for number in range(15)])
        text += "".join([f"relay r{number} at 1\n" for number in range(11)])
        none = (15, 27, 28, 29, 30, 31)
        told = on_scheme(text, *[suffice(1 << bit, 1 << bit, 0) for bit in range(32)])
        self.assertEqual(told, [[0, 1] if bit in none else [-5] for bit in range(32)])

    def test_out_of_range(self):
        text = "in a\nclose a 0 1\n"
        self.assertEqual(on_scheme(text, *[suffice(x, 0, 1) for x in WIDE]), [[-1]] * len(WIDE))
        self.assertEqual(on_scheme(text, *[suffice(0, x, 1) for x in WIDE]), [[-1]] * len(WIDE))
        self.assertEqual(on_scheme(text, *[suffice(1, 0, k) for k in BAD_NODES]), [[-1]] * len(BAD_NODES))
        self.assertEqual(on_scheme(text, suffice(1, 2**32 - 2, 1), suffice(2**32 - 1, 0, 1), suffice(1, 0, 63)),
                         [[0, 1], [0, 1], [0, 0]])

    def test_out_of_range_ahead_of_on_and_off(self):
        text = "in a\nclose a 0 1\n"
        told = on_scheme(text, suffice(1, 1, 64), suffice(1, 1, -1), suffice(2**32 + 1, 1, 1), suffice(1, 2**32 + 1, 1),
                         suffice(-1, 1, 1), suffice(1, -1, 1), suffice(1, 1, 63))
        self.assertEqual(told, [[-1]] * 6 + [[-5]])

    def test_new_object(self):
        self.assertEqual(run(suffice(2**32 - 1, 2**32 - 1, 0), suffice(1, 1, 1)), [[0, 1], [0, 0]])


if __name__ == "__main__":
    unittest.main()
