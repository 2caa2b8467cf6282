import unittest

from tests.calling import closers, inputs, load, matter, on_scheme, relays, run
from tests.test_path import BAD_NODES


class Matter(unittest.TestCase):
    def test_closer_and_opener(self):
        text = "in a\nin b\nclose a 0 1\nopen b 0 2\n"
        self.assertEqual(on_scheme(text, matter(1), matter(2)), [[0, 0], [0, 1]])

    def test_rising(self):
        text = "in a\nin b\nin c\nclose c 0 1\nopen b 1 2\nclose a 2 3\n"
        self.assertEqual(on_scheme(text, matter(1), matter(2), matter(3)), [[0, 2], [0, 1, 2], [0, 0, 1, 2]])

    def test_inputs_and_relays(self):
        text = inputs(16) + relays(12) + "close r11 0 1\nopen i15 1 2\nclose r0 2 3\nopen i0 3 4\n"
        told = on_scheme(text, matter(1), matter(2), matter(3), matter(4))
        self.assertEqual(told, [[0, 27], [0, 15, 27], [0, 15, 16, 27], [0, 0, 15, 16, 27]])

    def test_side_by_side(self):
        text = "in a\nin b\nclose a 0 1\nopen b 0 1\n"
        self.assertEqual(on_scheme(text, matter(1)), [[0, 0, 1]])

    def test_used_elsewhere(self):
        text = "in a\nin b\nclose a 0 1\nclose b 1 2\n"
        self.assertEqual(on_scheme(text, matter(1), matter(2)), [[0, 0], [0, 0, 1]])

    def test_on_the_way_and_yet_of_no_matter(self):
        # Either way of b leads on; a alone decides.
        text = "in a\nin b\nclose a 0 1\nclose b 1 2\nopen b 1 2\n"
        self.assertEqual(on_scheme(text, matter(2)), [[0, 0]])

    def test_taken_in_by_another_way(self):
        text = "in a\nin b\nclose a 0 1\nclose b 1 2\nclose a 0 2\n"
        self.assertEqual(on_scheme(text, matter(2)), [[0, 0]])

    def test_matters_in_one_state_alone(self):
        contacts = "".join([f"close i{node} {node} {node + 1}\n" for node in range(8)])
        self.assertEqual(on_scheme(inputs(8) + contacts, matter(8)), [[0] + list(range(8))])

    def test_either_or(self):
        # Live while just one of a and b is on.
        text = "in a\nin b\nclose a 0 1\nopen b 1 3\nopen a 0 2\nclose b 2 3\n"
        self.assertEqual(on_scheme(text, matter(3)), [[0, 0, 1]])

    def test_rail(self):
        text = "in a\nclose a 0 1\nopen a 0 2\n"
        self.assertEqual(on_scheme(text, matter(0)), [[0]])

    def test_nothing_leads_there(self):
        text = "in a\nin b\nclose a 0 1\nclose b 2 3\n"
        self.assertEqual(on_scheme(text, matter(2), matter(3), matter(63)), [[0]] * 3)

    def test_only_by_what_cannot_be(self):
        self.assertEqual(on_scheme("in a\nclose a 0 1\nopen a 1 2\n", matter(2)), [[0]])

    def test_live_in_every_state(self):
        text = "in a\nin b\nclose a 0 1\nopen a 0 1\nclose b 0 1\n"
        self.assertEqual(on_scheme(text, matter(1)), [[0]])

    def test_new_object(self):
        self.assertEqual(run(matter(0), matter(1), matter(63)), [[0]] * 3)


class Used(unittest.TestCase):
    def test_eight_and_nine(self):
        self.assertEqual(on_scheme(closers(8), matter(1), matter(0), matter(2)), [[0] + list(range(8)), [0], [0]])
        self.assertEqual(on_scheme(closers(9), matter(1), matter(0), matter(2)), [[-9]] * 3)

    def test_relays_count(self):
        contacts = "".join([f"open i{number} 0 1\nclose r{number} 0 1\n" for number in range(4)])
        text = inputs(16) + relays(12) + contacts
        self.assertEqual(on_scheme(text, matter(1)), [[0, 0, 1, 2, 3, 16, 17, 18, 19]])
        self.assertEqual(on_scheme(text + "open r4 50 51\n", matter(1)), [[-9]])

    def test_a_variable_counts_once(self):
        text = closers(8) + "open i7 1 2\n" * 30 + "close i6 1 2\n" * 30
        self.assertEqual(on_scheme(text, matter(1)), [[0] + list(range(8))])


class Refused(unittest.TestCase):
    def test_out_of_range(self):
        text = "in a\nopen a 0 63\n"
        self.assertEqual(on_scheme(text, *[matter(k) for k in BAD_NODES]), [[-1]] * len(BAD_NODES))
        self.assertEqual(on_scheme(text, matter(63), matter(0)), [[0, 0], [0]])
        self.assertEqual(run(matter(-1), matter(64)), [[-1], [-1]])

    def test_out_of_range_ahead_of_too_many(self):
        self.assertEqual(on_scheme(closers(9), *[matter(k) for k in BAD_NODES]), [[-1]] * len(BAD_NODES))


class OfTheSchemeAsItIs(unittest.TestCase):
    def test_another_scheme(self):
        told = run(load("in a\nin b\nclose a 0 1\n"), matter(1), load("in a\nin b\nopen b 0 1\n"), matter(1), load(""),
                   matter(1), load(closers(9)), matter(1), load(closers(2)), matter(1))
        self.assertEqual(told[1::2], [[0, 0], [0, 1], [0], [-9], [0, 0, 1]])


if __name__ == "__main__":
    unittest.main()
