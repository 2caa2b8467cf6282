import unittest

from tests.calling import border, fault, first, inputs, load, matter, on_scheme, path, relays, run, suffice, sums

OF_EACH_SORT = (
    "in a\n"
    "in b2c\n"
    "relay r at 5\n"
    "relay s at 63 up 1\n"
    "relay t at 0 down 65535\n"
    "relay u at 10 up 65535 down 1\n"
    "lamp l at 7\n"
    "open a 0 1\n"
    "close r 1 63\n"
)


def lamps(many):
    return "".join([f"lamp l{number} at 1\n" for number in range(many)])


class Fine(unittest.TestCase):
    def test_empty_text(self):
        self.assertEqual(run(load("")), [[0, 0, 0]])

    def test_empty_text_empties_the_scheme(self):
        text = "in a\nclose a 0 1\n"
        self.assertEqual(run(load(text), path(1, 1), load(""), path(1, 1)), [[0, 0, 0], [0, 0], [0, 0, 0], [-5]])

    def test_new_object_has_no_scheme(self):
        told = run(path(0, 0), path(2**32 - 1, 1), border(5), suffice(3, 3, 0), suffice(3, 3, 1))
        self.assertEqual(told, [[0], [-5], [0], [0, 1], [0, 0]])

    def test_each_sort_of_line(self):
        self.assertEqual(fault(OF_EACH_SORT), (0, 0))

    def test_each_sort_alone(self):
        for line in ("in a", "relay r at 3", "lamp l at 3"):
            self.assertEqual(fault(line + "\n"), (0, 0), line)

    def test_variables_are_numbered_by_sort(self):
        text = "in a\nin b\nrelay r at 1\nrelay s at 1\nclose a 0 1\nclose b 0 2\nclose r 0 3\nclose s 0 4\n"
        told = on_scheme(text, *[path(1 << variable, node) for variable, node in ((0, 1), (1, 2), (16, 3), (17, 4))])
        self.assertEqual(told, [[0, 0], [0, 1], [0, 2], [0, 3]])

    def test_openers_and_closers(self):
        text = "in a\nopen a 0 1\nclose a 0 2\n"
        told = on_scheme(text, path(0, 1), path(0, 2), path(1, 1), path(1, 2))
        self.assertEqual(told, [[0, 0], [-5], [-5], [0, 1]])

    def test_words_may_be_names(self):
        text = "in in\nin at\nrelay relay at 1 up 1\nrelay up at 1 down 1\nlamp lamp at 2\nopen in 0 1\nclose up 0 1\n"
        self.assertEqual(fault(text), (0, 0))

    def test_fullest_scheme(self):
        contacts = "".join([f"close i{number % 16} 0 1\n" for number in range(256)])
        self.assertEqual(fault(inputs(16) + relays(12) + lamps(16) + contacts), (0, 0))

    def test_lamp_and_relay_may_share_a_node(self):
        self.assertEqual(fault("relay a at 3\nrelay b at 3\nlamp c at 3\nlamp d at 3\n"), (0, 0))

    def test_later_load_replaces(self):
        told = run(load("in a\nclose a 0 1\n"), load("in a\nclose a 0 2\n"), path(1, 1), path(1, 2))
        self.assertEqual(told, [[0, 0, 0], [0, 0, 0], [-5], [0, 0]])


class Shape(unittest.TestCase):
    def refuse(self, line):
        self.assertEqual(fault("in z\n" + line + "\nlamp y at 1\n"), (1, 1), line)

    def accept(self, line):
        self.assertEqual(fault("in z\n" + line + "\n"), (0, 0), line)

    def test_no_words(self):
        for line in ("", " ", "x", "in", "relay", "lamp", "open", "close", "IN a", "input a", "i a", "closed z 0 1"):
            self.refuse(line)

    def test_first_words_with_what_stands_behind_each(self):
        for word in ("", "x", "lamps", "relays", "opens", "In", "at", "up"):
            for rest in (" a", " a at 1", " a at 1 up 1", " a at 1 down 1", " z 0 1"):
                self.refuse(word + rest)
        for line in ("in a at 1", "in z 0 1", "relay a", "relay z 0 1", "lamp a", "lamp z 0 1", "open a", "open a at 1",
                     "close a at 1", "lamp a at 1 up 1 down 1"):
            self.refuse(line)

    def test_too_few_and_too_many_parts(self):
        for line in ("in a b", "relay r", "relay r at", "relay r at 1 up", "relay r at 1 up 1 down", "lamp l", "lamp l at",
                     "lamp l at 1 up 1", "lamp l at 1 1", "open z", "open z 0", "open z 0 1 2", "close z 1",
                     "relay r at 1 up 1 down 1 up 1", "relay r at 1 x", "relay r at 1 up 1 down 1 1"):
            self.refuse(line)

    def test_blanks(self):
        for line in (" in a", "in a ", "in  a", "in\ta", "lamp l  at 1", "lamp l at  1", "open z 0  1", "close z 0 1 ",
                     "in a\r", "relay r at 1 ", "relay r at 1  up 1", "in ", "in  "):
            self.refuse(line)

    def test_words_between(self):
        for line in ("relay r on 1", "lamp l on 1", "lamp l 1", "relay r at 1 Up 1", "relay r at 1 over 1", "relay r up 1 at 1"):
            self.refuse(line)

    def test_order_of_up_and_down(self):
        self.accept("relay r at 1 up 1 down 1")
        for line in ("relay r at 1 down 1 up 1", "relay r at 1 up 1 up 1", "relay r at 1 down 1 down 1"):
            self.refuse(line)

    def test_names(self):
        for name in ("a", "z", "a0", "z9", "abcdefghijkl", "a12345678901"):
            self.accept("in " + ("q" if name == "z" else name))
        for name in ("abcdefghijklm", "a123456789012", "0a", "9", "A", "aB", "a_b", "a-", "a.", "a`", "a{", "a/", "a:",
                     "`a", "{a", "a\x00", "a\xe9", "\xff", "a?"):
            self.refuse("in " + name)
            self.refuse("relay " + name + " at 1")
            self.refuse("lamp " + name + " at 1")
            self.refuse("open " + name + " 0 1")

    def test_long_lines(self):
        for line in ("in " + "a" * 9000, "lamp l at " + "1" * 9000, "relay r at 1 up " + "0" * 9000, " " * 9000):
            self.refuse(line)

    def test_nodes(self):
        for node in ("0", "1", "9", "10", "63"):
            self.accept("lamp l at " + node)
            self.accept("relay r at " + node)
        for node in ("64", "65", "99", "100", "630", "00", "01", "063", "-1", "+1", "1.", "0x1", "a", "1a", ":", "/"):
            self.refuse("lamp l at " + node)
            self.refuse("relay r at " + node)
            self.refuse("open z 0 " + node)
            self.refuse("close z " + node + " 63")

    def test_nodes_of_a_contact(self):
        for word in ("open", "close"):
            for nodes in ("0 1", "0 63", "62 63", "9 10"):
                self.accept(f"{word} z {nodes}")
            for nodes in ("0 0", "63 63", "1 0", "63 62", "10 9", "0 64", "63 64", "00 1", "0 01"):
                self.refuse(f"{word} z {nodes}")

    def test_ticks(self):
        for word in ("up", "down"):
            for ticks in ("1", "9", "10", "65535"):
                self.accept(f"relay r at 1 {word} {ticks}")
            for ticks in ("0", "00", "01", "065535", "65536", "65540", "70000", "99999", "100000", "655350", "-1", "+1", "x", ""):
                self.refuse(f"relay r at 1 {word} {ticks}")
                self.refuse(f"relay r at 1 up {ticks} down 1")
                self.refuse(f"relay r at 1 up 1 down {ticks}")

    def test_behind_the_last_line(self):
        self.assertEqual(fault("in a"), (1, 0))
        self.assertEqual(fault(" "), (1, 0))
        self.assertEqual(fault("in a\nin b"), (1, 1))
        self.assertEqual(fault("in a\nin b\n"), (0, 0))
        self.assertEqual(fault("in a\nin b\n\n"), (1, 2))
        self.assertEqual(fault("\n"), (1, 0))
        self.assertEqual(fault("in a\nx\nin b"), (1, 1))

    def test_every_byte_alone(self):
        for byte in range(256):
            expected = (0, 0) if 97 <= byte <= 122 else (1, 0)
            self.assertEqual(fault(list(b"in ") + [byte, 10]), expected, byte)


class OtherFaults(unittest.TestCase):
    def test_order(self):
        lines = ("in a\n", "relay b at 1\n", "lamp c at 1\n", "open a 0 1\n")
        for later in range(1, 4):
            for earlier in range(later):
                self.assertEqual(fault("in z\n" + lines[later] + lines[earlier]), (2, 2), (later, earlier))

    def test_order_looks_at_all_lines_before(self):
        self.assertEqual(fault("in a\nlamp b at 1\nlamp c at 1\nrelay d at 1\nin e\n"), (2, 3))
        self.assertEqual(fault("lamp b at 1\nlamp c at 1\nin e\nrelay d at 1\n"), (2, 2))

    def test_too_many(self):
        contacts = "close i0 0 1\n"
        self.assertEqual(fault(inputs(17)), (3, 16))
        self.assertEqual(fault(relays(13)), (3, 12))
        self.assertEqual(fault(lamps(17)), (3, 16))
        self.assertEqual(fault("in i0\n" + contacts * 257), (3, 257))
        self.assertEqual(fault("in i0\n" + contacts * 256), (0, 0))

    def test_too_many_of_several_sorts(self):
        self.assertEqual(fault(inputs(18) + relays(14)), (3, 16))
        self.assertEqual(fault(inputs(16) + relays(14) + lamps(18)), (3, 28))
        self.assertEqual(fault(inputs(16) + relays(12) + lamps(18)), (3, 44))

    def test_name_given_before(self):
        for text, line in (("in a\nin a\n", 1), ("in a\nrelay a at 1\n", 1), ("in a\nin b\nlamp b at 1\n", 2),
                           ("relay a at 1\nrelay a at 1\n", 1), ("relay a at 1\nlamp a at 1\n", 1),
                           ("lamp a at 1\nlamp b at 1\nlamp a at 1\nlamp b at 1\n", 2), ("in a\nin a\nin a\n", 1)):
            self.assertEqual(fault(text), (4, line), text)

    def test_names_that_begin_alike_differ(self):
        self.assertEqual(fault("in a\nin a1\nrelay aa at 1\nlamp a11 at 1\n"), (0, 0))

    def test_contacts_may_share_a_name(self):
        self.assertEqual(fault("in a\nopen a 0 1\nopen a 0 1\nclose a 0 1\n"), (0, 0))

    def test_contact_of_nobody(self):
        self.assertEqual(fault("open a 0 1\n"), (5, 0))
        self.assertEqual(fault("in a\nclose a 0 1\nclose b 0 1\nclose c 0 1\n"), (5, 2))

    def test_contact_of_a_lamp(self):
        self.assertEqual(fault("in a\nlamp l at 1\nclose a 0 1\nopen l 0 1\n"), (5, 3))

    def test_least_kind_then_first_line(self):
        five = "close nobody 0 1\n"
        four = "in a\nin a\n"
        self.assertEqual(fault(four + five), (4, 1))
        self.assertEqual(fault("in a\n" * 17 + five), (3, 16))
        self.assertEqual(fault("in a\n" * 17 + five + "lamp b at 1\n"), (2, 18))
        self.assertEqual(fault("in a\n" * 17 + five + "lamp b at 1\n" + "\n"), (1, 19))
        self.assertEqual(fault("in a\n" * 17 + five + "lamp b at 1\n" + "in c"), (1, 19))
        self.assertEqual(fault(five + "in a\nin a\n"), (2, 1))
        self.assertEqual(fault("in a\nclose nobody 0 1\nclose a 1 0\nx\n"), (1, 2))
        self.assertEqual(fault(inputs(1) + "relay i0 at 1\n" + relays(12)), (3, 13))


class Size(unittest.TestCase):
    def test_most_bytes(self):
        line = "lamp l at 1\n"
        text = "x" * (20000 - len(line)) + "\n" + line
        self.assertEqual(run(load(text[1:])), [[0, 1, 0]])
        self.assertEqual(run(load(text)), [[-1]])

    def test_length_alone_decides(self):
        self.assertEqual(run(load([10] * 20000)), [[0, 1, 0]])
        for many in (20001, 20050, 20100):
            self.assertEqual(run(load([10] * many)), [[-1]])

    def test_long_text_with_a_late_fault(self):
        text = "in a\n" + "close a 0 1\n" * 1666
        self.assertEqual(len(text), 19997)
        self.assertEqual(run(load(text + "?\n\n")), [[0, 1, 1667]])
        self.assertEqual(run(load(text)), [[0, 3, 257]])


class Kept(unittest.TestCase):
    def test_faulty_and_refused_loads_change_nothing(self):
        text = "in a\nrelay r at 1\nclose a 0 1\nopen r 1 2\n"
        asked = (path(1, 2), border(0), suffice(1, 1, 1), suffice(1, 1 << 16, 2), sums(2), first(1, 2), matter(2))
        before = [[0, 0, 1], [0, 0], [-5], [0, 1], [0, 1, 1 << 16], [0, 1 + (1 << 16)], [0, 0, 16]]
        others = ((load("in b\nclose b 0 5\n\n"), [0, 1, 2]), (load("close b 0 5\nin b\n"), [0, 2, 1]),
                  (load(inputs(17)), [0, 3, 16]), (load("in b\nin b\nclose b 0 1\n"), [0, 4, 1]),
                  (load("in b\nclose c 0 5\n"), [0, 5, 1]), (load([10] * 20001), [-1]), (path(-1, 0), [-1]),
                  (path(0, 63), [-5]), (border(-1), [-1]), (suffice(0, 0, 64), [-1]), (sums(64), [-1]),
                  (first(0, -1), [-1]), (first(2, 2), [-5]), (matter(-1), [-1]))
        for other, told in others:
            self.assertEqual(on_scheme(text, other, *asked), [told] + before)
            self.assertEqual(on_scheme(text, *asked, other, *asked), before + [told] + before)


if __name__ == "__main__":
    unittest.main()
