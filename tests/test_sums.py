import unittest

from tests.calling import closers, inputs, load, on_scheme, relays, run, suffice, sums
from tests.test_path import BAD_NODES

R = 1 << 16


class Sums(unittest.TestCase):
    def test_rail(self):
        text = "in a\nclose a 0 1\nopen a 0 1\n"
        self.assertEqual(on_scheme(text, sums(0)), [[0, 0, 0]])

    def test_new_object(self):
        self.assertEqual(run(sums(0), sums(1), sums(63)), [[0, 0, 0], [0], [0]])

    def test_nothing_leads_there(self):
        text = "in a\nin b\nclose a 0 1\nclose b 2 3\nopen b 2 3\n"
        self.assertEqual(on_scheme(text, sums(2), sums(3), sums(63)), [[0], [0], [0]])

    def test_only_on(self):
        text = "in a\nin b\nclose a 0 1\nclose b 1 2\n"
        self.assertEqual(on_scheme(text, sums(1), sums(2)), [[0, 1, 0], [0, 3, 0]])

    def test_only_off(self):
        text = "in a\nin b\nopen a 0 1\nopen b 1 2\n"
        self.assertEqual(on_scheme(text, sums(1), sums(2)), [[0, 0, 1], [0, 0, 3]])

    def test_on_and_off(self):
        text = "in a\nrelay r at 1\nclose a 0 1\nopen r 1 2\n"
        self.assertEqual(on_scheme(text, sums(2)), [[0, 1, R]])

    def test_live_in_every_state(self):
        # Whatever a is the node is live, but no variables at all don't suffice.
        text = "in a\nclose a 0 1\nopen a 0 1\n"
        self.assertEqual(on_scheme(text, sums(1)), [[0, 0, 1, 1, 0]])

    def test_only_by_what_cannot_be(self):
        text = "in a\nclose a 0 1\nopen a 1 2\n"
        self.assertEqual(on_scheme(text, sums(1), sums(2)), [[0, 1, 0], [0]])

    def test_none_that_can_be_left_out(self):
        # To node 1 by b, or by a and c; a and b suffice for it too, but a can be left out.
        text = "in a\nin b\nin c\nclose b 0 1\nclose a 0 2\nclose b 1 2\nclose c 1 2\n"
        self.assertEqual(on_scheme(text, sums(1), sums(2)), [[0, 2, 0, 5, 0], [0, 1, 0, 2, 0]])

    def test_several_that_can_be_left_out(self):
        text = "in a\nin b\nin c\nclose a 0 1\nclose b 1 2\nclose c 2 3\nclose a 0 3\n"
        self.assertEqual(on_scheme(text, sums(3), sums(2)), [[0, 1, 0], [0, 3, 0, 5, 0]])

    def test_nothing_is_joined(self):
        # a and b, and a without b: each suffices, a alone leads nowhere by itself.
        text = "in a\nin b\nclose a 0 1\nclose b 1 2\nopen b 1 2\n"
        self.assertEqual(on_scheme(text, sums(2)), [[0, 1, 2, 3, 0]])

    def test_one_variable_at_several_contacts(self):
        text = "in a\nin b\nclose a 0 1\nclose a 1 2\nopen b 2 3\nopen b 3 4\n"
        self.assertEqual(on_scheme(text, sums(4)), [[0, 1, 2]])

    def test_same_sum_by_several_ways(self):
        text = "in a\nin b\nclose a 0 1\nclose b 1 3\nclose b 0 2\nclose a 2 3\n"
        self.assertEqual(on_scheme(text, sums(3)), [[0, 3, 0]])

    def test_either_direction(self):
        text = "in a\nin b\nclose a 0 9\nopen b 2 9\n"
        self.assertEqual(on_scheme(text, sums(2)), [[0, 1, 2]])

    def test_ways_beside_the_rail(self):
        # The bridge: the way by c leads through it in both directions.
        text = "in a\nin b\nin c\nin d\nin e\nclose a 0 1\nclose b 0 2\nclose c 1 2\nclose d 1 3\nclose e 2 3\n"
        self.assertEqual(on_scheme(text, sums(3)), [[0, 9, 0, 18, 0, 14, 0, 21, 0]])


class Order(unittest.TestCase):
    def test_how_many_first(self):
        # a and b are bits 0 and 1, 3 as a number; c alone is 4, but has fewer variables.
        text = "in a\nin b\nin c\nclose a 0 1\nclose b 1 2\nclose c 0 2\n"
        self.assertEqual(on_scheme(text, sums(2)), [[0, 4, 0, 3, 0]])

    def test_those_off_count_as_many(self):
        text = "in a\nin b\nin c\nopen a 0 1\nopen b 1 2\nclose c 0 2\n"
        self.assertEqual(on_scheme(text, sums(2)), [[0, 4, 0, 0, 3]])

    def test_those_on_before_those_off(self):
        text = "in a\nin b\nclose a 0 1\nopen b 0 1\n"
        self.assertEqual(on_scheme(text, sums(1)), [[0, 0, 2, 1, 0]])
        text = "in a\nin b\nin c\nin d\nclose a 0 1\nopen d 1 3\nclose b 0 2\nopen c 2 3\n"
        self.assertEqual(on_scheme(text, sums(3)), [[0, 1, 8, 2, 4]])

    def test_those_on_as_one_number(self):
        # Of 1 and 8 against 2 and 4 the greatest bit decides, not the least.
        text = "in a\nin b\nin c\nin d\nclose a 0 1\nclose d 1 3\nclose b 0 2\nclose c 2 3\n"
        self.assertEqual(on_scheme(text, sums(3)), [[0, 6, 0, 9, 0]])

    def test_then_those_off(self):
        text = "in a\nin b\nin c\nin d\nclose a 0 1\nopen d 1 2\nopen b 1 2\nopen c 1 2\n"
        self.assertEqual(on_scheme(text, sums(2)), [[0, 1, 2, 1, 4, 1, 8]])

    def test_inputs_and_relays(self):
        text = "in a\nrelay r at 1\nclose r 0 1\nclose a 0 1\nopen r 0 2\nopen a 0 2\n"
        self.assertEqual(on_scheme(text, sums(1), sums(2)), [[0, 1, 0, R, 0], [0, 0, 1, 0, R]])

    def test_order_of_contacts_changes_nothing(self):
        lines = ["close a 0 1\n", "open b 0 1\n", "close c 0 2\n", "open a 1 2\n"]
        head = "in a\nin b\nin c\n"
        self.assertEqual(on_scheme(head + "".join(lines), sums(1)), on_scheme(head + "".join(lines[::-1]), sums(1)))
        self.assertEqual(on_scheme(head + "".join(lines), sums(1)), [[0, 0, 2, 1, 0, 4, 1]])


class Used(unittest.TestCase):
    def test_six_and_seven(self):
        six = [0] + [number for bit in range(6) for number in (1 << bit, 0)]
        self.assertEqual(on_scheme(closers(6), sums(1), sums(0), sums(2)), [six, [0, 0, 0], [0]])
        self.assertEqual(on_scheme(closers(7), sums(1), sums(0), sums(2)), [[-9]] * 3)

    def test_six_on_and_off(self):
        text = inputs(3) + relays(3) + "close i0 0 1\nopen i1 1 2\nclose i2 2 3\nopen r0 3 4\nclose r1 4 5\nopen r2 5 6\n"
        self.assertEqual(on_scheme(text, sums(6)), [[0, 5 + 2 * R, 2 + 5 * R]])

    def test_all_of_six(self):
        # Each variable closes or opens the next step: 2^6 sums of six variables, by those on.
        text = inputs(6) + "".join([f"{kind} i{node} {node} {node + 1}\n" for node in range(6) for kind in ("open", "close")])
        told = [0] + [number for on in range(64) for number in (on, 63 - on)]
        self.assertEqual(on_scheme(text, sums(6)), [told])

    def test_relays_count(self):
        contacts = "".join([f"close i{number} 0 1\nopen r{number} 0 1\n" for number in range(3)])
        self.assertEqual(len(on_scheme(inputs(3) + relays(4) + contacts, sums(1))[0]), 13)
        self.assertEqual(on_scheme(inputs(3) + relays(4) + contacts + "open r3 0 1\n", sums(1)), [[-9]])

    def test_variables_without_contacts_do_not_count(self):
        text = inputs(16) + relays(12) + "close i15 0 1\nopen r11 1 2\n"
        self.assertEqual(on_scheme(text, sums(1), sums(2)), [[0, 1 << 15, 0], [0, 1 << 15, 1 << 27]])

    def test_a_variable_counts_once(self):
        text = closers(6) + "open i0 0 1\n" * 20 + "close i5 1 2\n" * 20
        self.assertEqual(on_scheme(text, sums(2)), [[0, 32, 0]])

    def test_contacts_off_the_rail_count(self):
        text = "in z\n" + closers(6) + "open z 40 41\n"
        self.assertEqual(on_scheme(text, sums(1)), [[-9]])

    def test_most_contacts(self):
        contacts = [f"close i{number % 6} {number % 63} {number % 63 + 1}\n" for number in range(255)]
        told = on_scheme(inputs(6) + "".join(contacts) + "open i0 0 63\n", sums(63), sums(1), sums(62))
        self.assertEqual(told[0][:3], [0, 0, 1])
        self.assertTrue(all(len(each) % 2 == 1 for each in told))


class Refused(unittest.TestCase):
    def test_out_of_range(self):
        text = "in a\nopen a 0 63\n"
        self.assertEqual(on_scheme(text, *[sums(k) for k in BAD_NODES]), [[-1]] * len(BAD_NODES))
        self.assertEqual(on_scheme(text, sums(63), sums(0)), [[0, 0, 1], [0, 0, 0]])
        self.assertEqual(run(sums(-1), sums(64)), [[-1], [-1]])

    def test_out_of_range_ahead_of_too_many(self):
        self.assertEqual(on_scheme(closers(7), *[sums(k) for k in BAD_NODES]), [[-1]] * len(BAD_NODES))
        self.assertEqual(on_scheme(closers(7), sums(0), sums(63)), [[-9], [-9]])


class OfTheSchemeAsItIs(unittest.TestCase):
    def test_another_scheme(self):
        told = run(load("in a\nclose a 0 1\n"), sums(1), load("in a\nopen a 0 1\n"), sums(1), load(""), sums(1),
                   load(closers(7)), sums(1), load(closers(1)), sums(1))
        self.assertEqual(told[1::2], [[0, 1, 0], [0, 0, 1], [0], [-9], [0, 1, 0]])

    def test_each_sum_suffices_and_none_can_be_left_out(self):
        text = "in a\nin b\nin c\nclose a 0 1\nopen b 1 2\nclose c 0 2\nopen a 2 3\nclose b 0 3\nopen c 1 3\n"
        for node in range(4):
            told = on_scheme(text, sums(node))[0][1:]
            for on, off in zip(told[::2], told[1::2]):
                fewer = [suffice(on & ~(1 << bit), off & ~(1 << bit), node) for bit in range(3) if (on | off) >> bit & 1]
                answered = on_scheme(text, suffice(on, off, node), *fewer)
                self.assertEqual(answered, [[0, 1]] + [[0, 0]] * len(fewer), (node, on, off))


if __name__ == "__main__":
    unittest.main()
