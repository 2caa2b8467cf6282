import unittest

from tests.calling import load, on_scheme, path, run

WIDE = (-10**12, -2**32, -2**31, -1, 2**32, 2**32 + 1, 2**33, 10**12)
BAD_NODES = (-10**12, -64, -1, 64, 65, 128, 2**32, 10**12)


class Path(unittest.TestCase):
    def test_node_0(self):
        text = "in a\nclose a 0 1\n"
        self.assertEqual(on_scheme(text, path(0, 0), path(1, 0), path(2**32 - 1, 0)), [[0], [0], [0]])

    def test_one_contact(self):
        text = "in a\nclose a 0 63\n"
        self.assertEqual(on_scheme(text, path(1, 63), path(0, 63), path(1, 62)), [[0, 0], [-5], [-5]])

    def test_fewest_contacts(self):
        text = "in a\nclose a 0 1\nclose a 1 2\nclose a 2 3\nclose a 0 3\n"
        self.assertEqual(on_scheme(text, path(1, 3), path(1, 2)), [[0, 3], [0, 0, 1]])

    def test_fewest_contacts_changes_with_the_state(self):
        text = "in a\nin b\nclose a 0 1\nclose a 1 2\nopen b 0 2\n"
        self.assertEqual(on_scheme(text, path(1, 2), path(3, 2), path(2, 2)), [[0, 2], [0, 0, 1], [-5]])

    def test_of_two_side_by_side_the_lesser(self):
        text = "in a\nin b\nopen a 0 1\nclose a 0 1\nclose b 0 1\nclose a 0 1\n"
        self.assertEqual(on_scheme(text, path(0, 1), path(1, 1), path(3, 1), path(2, 1)), [[0, 0], [0, 1], [0, 1], [0, 0]])

    def test_first_difference_decides(self):
        # By node 1: contacts 1, 2; by node 2: contacts 0, 3. The sum is the same, the last is greater.
        text = "in a\nclose a 0 2\nclose a 0 1\nclose a 1 3\nclose a 2 3\n"
        self.assertEqual(on_scheme(text, path(1, 3)), [[0, 0, 3]])

    def test_difference_far_from_the_rail(self):
        text = "in a\nclose a 0 1\nclose a 3 4\nclose a 2 4\nclose a 1 3\nclose a 1 2\n"
        self.assertEqual(on_scheme(text, path(1, 4)), [[0, 0, 3, 1]])

    def test_a_lesser_contact_that_leads_nowhere(self):
        text = "in a\nclose a 0 5\nclose a 5 6\nclose a 0 1\nclose a 1 2\n"
        self.assertEqual(on_scheme(text, path(1, 2)), [[0, 2, 3]])

    def test_either_direction(self):
        text = "in a\nclose a 0 9\nclose a 3 9\nclose a 3 5\nclose a 1 5\n"
        self.assertEqual(on_scheme(text, path(1, 1)), [[0, 0, 1, 2, 3]])

    def test_a_lesser_way_back_is_not_taken(self):
        text = "in a\nclose a 1 2\nclose a 0 1\nclose a 2 3\nclose a 0 2\n"
        self.assertEqual(on_scheme(text, path(1, 1), path(1, 2), path(1, 3)), [[0, 1], [0, 3], [0, 3, 2]])

    def test_longest_way(self):
        text = "in a\n" + "".join([f"close a {node} {node + 1}\n" for node in range(63)])
        self.assertEqual(on_scheme(text, path(1, 63), path(0, 63)), [[0] + list(range(63)), [-5]])

    def test_longest_way_told_backwards(self):
        text = "in a\n" + "".join([f"open a {node} {node + 1}\n" for node in range(62, -1, -1)])
        self.assertEqual(on_scheme(text, path(0, 63)), [[0] + list(range(62, -1, -1))])

    def test_last_contact(self):
        text = "in a\nin b\n" + "close a 0 1\n" * 255 + "close b 0 1\n"
        self.assertEqual(on_scheme(text, path(2, 1), path(3, 1)), [[0, 255], [0, 0]])

    def test_bits_of_no_variable(self):
        text = "in a\nrelay r at 1\nclose a 0 1\nopen r 1 2\n"
        others = (2**32 - 1) - 1 - 2**16
        self.assertEqual(on_scheme(text, path(others, 1), path(others + 1, 2)), [[-5], [0, 0, 1]])

    def test_last_variables(self):
        text = "".join([f"in i{number}\n" for number in range(16)])
        text += "".join([f"relay r{number} at 1\n" for number in range(12)])
        text += "close i15 0 1\nclose r0 0 2\nclose r11 0 3\n"
        told = on_scheme(text, path(1 << 15, 1), path(1 << 16, 2), path(1 << 27, 3), path(1 << 28, 3))
        self.assertEqual(told, [[0, 0], [0, 1], [0, 2], [-5]])

    def test_states_out_of_range(self):
        text = "in a\nopen a 0 1\n"
        self.assertEqual(on_scheme(text, *[path(x, 1) for x in WIDE]), [[-1]] * len(WIDE))
        self.assertEqual(on_scheme(text, path(0, 1), path(2**32 - 2, 1), path(2**32 - 1, 1)), [[0, 0], [0, 0], [-5]])

    def test_nodes_out_of_range(self):
        text = "in a\nopen a 0 63\n"
        self.assertEqual(on_scheme(text, *[path(0, k) for k in BAD_NODES]), [[-1]] * len(BAD_NODES))
        self.assertEqual(on_scheme(text, path(0, 0), path(0, 63), path(0, 62)), [[0], [0, 0], [-5]])

    def test_out_of_range_on_a_new_object(self):
        self.assertEqual(run(path(-1, 0), path(2**32, 0), path(0, -1), path(0, 64)), [[-1]] * 4)

    def test_dead_and_out_of_range(self):
        self.assertEqual(run(load(""), path(-1, 1), path(0, 64), path(0, 1)), [[0, 0, 0], [-1], [-1], [-5]])


if __name__ == "__main__":
    unittest.main()
