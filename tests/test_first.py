import unittest

from tests.calling import closers, first, inputs, load, on_scheme, path, relays, run
from tests.test_path import BAD_NODES

R = 1 << 16


class First(unittest.TestCase):
    def test_least_state(self):
        # Apart in the states 2 and 3, where b is on, whatever a is.
        text = "in a\nin b\nclose a 0 3\nclose b 0 1\n"
        self.assertEqual(on_scheme(text, first(1, 2), first(1, 3), first(3, 2)), [[0, 2], [0, 1], [0, 1]])

    def test_state_0(self):
        text = "in a\nopen a 0 1\nclose a 0 2\n"
        self.assertEqual(on_scheme(text, first(1, 2), first(0, 2), first(0, 1)), [[0, 0], [0, 0], [0, 1]])

    def test_either_may_be_the_live_one(self):
        text = "in a\nin b\nclose a 0 1\nclose b 1 2\n"
        self.assertEqual(on_scheme(text, first(1, 2), first(2, 1)), [[0, 1], [0, 1]])

    def test_several_variables(self):
        text = "in a\nin b\nin c\nclose a 0 1\nclose b 1 2\nclose c 2 3\n"
        self.assertEqual(on_scheme(text, first(3, 9), first(2, 3), first(1, 3), first(0, 3)), [[0, 7], [0, 3], [0, 1], [0, 0]])

    def test_least_as_a_number(self):
        # By c alone is the state 4, by a and b the state 3.
        text = "in a\nin b\nin c\nclose c 0 2\nclose a 0 1\nclose b 1 2\n"
        self.assertEqual(on_scheme(text, first(2, 9)), [[0, 3]])

    def test_inputs_below_relays(self):
        text = inputs(16) + "relay r at 1\nclose r 0 1\nclose i15 0 2\nopen i15 1 3\nopen r 2 3\n"
        self.assertEqual(on_scheme(text, first(1, 9), first(2, 9), first(3, 9)), [[0, R], [0, 1 << 15], [0, 1 << 15]])

    def test_one_is_the_rail(self):
        text = "in a\nopen a 0 1\nclose a 0 2\nopen a 0 3\nclose a 0 3\n"
        told = on_scheme(text, first(0, 1), first(1, 0), first(0, 2), first(0, 3), first(3, 0), first(0, 9), first(9, 0))
        self.assertEqual(told, [[0, 1], [0, 1], [0, 0], [-5], [-5], [0, 0], [0, 0]])

    def test_greatest_state(self):
        text = inputs(2) + relays(12) + "open i1 0 1\nopen r11 0 1\n"
        self.assertEqual(on_scheme(text, first(0, 1)), [[0, 2 + (1 << 27)]])

    def test_new_object(self):
        self.assertEqual(run(first(0, 1), first(63, 0), first(1, 2), first(0, 0)), [[0, 0], [0, 0], [-5], [-5]])


class UsedBits(unittest.TestCase):
    def test_bits_of_used_variables_alone(self):
        text = inputs(16) + relays(12) + "close i9 0 1\nclose r7 1 2\nopen i4 2 3\n"
        told = on_scheme(text, first(1, 63), first(2, 63), first(3, 63), first(2, 3))
        self.assertEqual(told, [[0, 1 << 9], [0, (1 << 9) + (1 << 23)], [0, (1 << 9) + (1 << 23)],
                                [0, (1 << 4) + (1 << 9) + (1 << 23)]])

    def test_eight_and_nine(self):
        self.assertEqual(on_scheme(closers(8), first(0, 1), first(1, 2)), [[0, 0], [0, 1]])
        self.assertEqual(on_scheme(closers(9), first(0, 1), first(1, 2)), [[-9], [-9]])

    def test_all_of_eight(self):
        contacts = "".join([f"close i{number} {number} {number + 1}\n" for number in range(4)])
        contacts += "".join([f"close r{number} {number + 4} {number + 5}\n" for number in range(4)])
        text = inputs(4) + relays(4) + contacts
        self.assertEqual(on_scheme(text, first(8, 9), first(7, 8)), [[0, 15 + 15 * R], [0, 15 + 7 * R]])
        more = inputs(4) + relays(5) + contacts
        self.assertEqual(on_scheme(more, first(8, 9)), [[0, 15 + 15 * R]])
        self.assertEqual(on_scheme(more + "open r4 50 51\n", first(8, 9)), [[-9]])

    def test_a_variable_counts_once(self):
        self.assertEqual(on_scheme(closers(8) + "open i0 1 2\n" * 30, first(1, 2)), [[0, 1]])


class Refused(unittest.TestCase):
    def test_the_same_node(self):
        text = "in a\nclose a 0 1\n"
        self.assertEqual(on_scheme(text, first(0, 0), first(1, 1), first(2, 2), first(63, 63)), [[-5]] * 4)

    def test_live_in_just_the_same_states(self):
        text = "in a\nin b\nclose a 0 1\nclose a 0 2\nopen b 3 4\nclose b 3 4\nclose a 1 4\n"
        told = on_scheme(text, first(1, 2), first(2, 1), first(3, 4), first(3, 1), first(8, 9))
        self.assertEqual(told, [[-5]] * 5)

    def test_out_of_range(self):
        text = "in a\nopen a 0 63\n"
        for k in BAD_NODES:
            self.assertEqual(on_scheme(text, first(k, 0), first(0, k), first(k, k)), [[-1]] * 3, k)
        self.assertEqual(on_scheme(text, first(63, 0), first(0, 63), first(63, 62)), [[0, 1], [0, 1], [0, 0]])
        self.assertEqual(run(first(-1, 0), first(0, 64)), [[-1], [-1]])

    def test_out_of_range_ahead_of_too_many(self):
        for k in BAD_NODES:
            self.assertEqual(on_scheme(closers(9), first(k, 0), first(0, k), first(k, k)), [[-1]] * 3, k)

    def test_too_many_ahead_of_none(self):
        self.assertEqual(on_scheme(closers(9), first(0, 0), first(1, 1), first(2, 3)), [[-9]] * 3)
        self.assertEqual(on_scheme(closers(8), first(0, 0), first(1, 1), first(2, 3)), [[-5]] * 3)


class OfTheSchemeAsItIs(unittest.TestCase):
    def test_another_scheme(self):
        told = run(load("in a\nclose a 0 1\n"), first(1, 2), load("in a\nopen a 0 1\n"), first(1, 2), load(""), first(1, 2),
                   load(closers(9)), first(1, 2), load("in a\nin b\nclose b 0 1\n"), first(1, 2))
        self.assertEqual(told[1::2], [[0, 1], [0, 0], [-5], [-9], [0, 2]])

    def test_just_one_has_a_way(self):
        text = "in a\nin b\nin c\nclose a 0 1\nopen b 1 2\nclose c 0 2\nopen a 2 3\nclose b 0 3\nopen c 1 3\n"
        for k in range(5):
            for l in range(5):
                states = [x for x in range(8) if [-5] in on_scheme(text, path(x, k), path(x, l))
                          and on_scheme(text, path(x, k), path(x, l)) != [[-5], [-5]]]
                self.assertEqual(on_scheme(text, first(k, l)), [[0, states[0]] if states else [-5]], (k, l))


if __name__ == "__main__":
    unittest.main()
