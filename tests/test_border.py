import unittest

from tests.calling import border, on_scheme, run
from tests.test_path import WIDE


class Border(unittest.TestCase):
    def test_nothing_lives_but_the_rail(self):
        text = "in a\nclose a 0 1\nclose a 1 2\nclose a 0 2\n"
        self.assertEqual(on_scheme(text, border(0), border(1)), [[0, 0, 2], [0]])

    def test_rising(self):
        text = "in a\nin b\nclose b 7 9\nopen a 1 2\nclose b 5 6\nclose a 0 5\nopen b 0 9\n"
        self.assertEqual(on_scheme(text, border(0), border(1), border(2), border(3)),
                         [[0, 0, 3], [0, 0, 2], [0, 3, 4], [0, 4]])

    def test_either_node_may_be_the_live_one(self):
        text = "in a\nin b\nclose a 0 9\nclose b 3 9\nclose b 9 10\n"
        self.assertEqual(on_scheme(text, border(1)), [[0, 1, 2]])

    def test_lets_through_but_lies_apart(self):
        text = "in a\nin b\nclose a 0 1\nopen b 1 2\nopen b 2 3\n"
        self.assertEqual(on_scheme(text, border(0)), [[0, 0]])

    def test_cut_off_but_live_at_both(self):
        text = "in a\nin b\nclose a 0 1\nclose b 0 1\n"
        self.assertEqual(on_scheme(text, border(1), border(0)), [[0], [0, 0, 1]])

    def test_bits_of_no_variable(self):
        text = "in a\nrelay r at 1\nclose a 0 1\nopen r 0 2\n"
        others = (2**32 - 1) - 1 - 2**16
        told = on_scheme(text, border(others), border(others + 1), border(others + 2**16), border(2**32 - 1))
        self.assertEqual(told, [[0, 0], [0], [0, 0, 1], [0, 1]])

    def test_all_contacts(self):
        text = "in a\n" + "close a 0 1\n" * 256
        self.assertEqual(on_scheme(text, border(0), border(1)), [[0] + list(range(256)), [0]])

    def test_new_object(self):
        self.assertEqual(run(border(0), border(2**32 - 1)), [[0], [0]])

    def test_out_of_range(self):
        text = "in a\nclose a 0 1\n"
        self.assertEqual(on_scheme(text, *[border(x) for x in WIDE]), [[-1]] * len(WIDE))
        self.assertEqual(run(border(-1), border(2**32)), [[-1], [-1]])


if __name__ == "__main__":
    unittest.main()
