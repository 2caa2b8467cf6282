"""Holds many small schemes against a slow reading of the document's words."""

import random
import unittest

from tests.calling import border, first, matter, on_scheme, path, suffice, sums

INPUTS = 2
RELAYS = 2
VARIABLES = (0, 1, 16, 17)
NAMES = {0: "i0", 1: "i1", 16: "r0", 17: "r1"}


def some_contacts(chance, most_nodes):
    contacts = []
    for number in range(chance.randrange(1, 11)):
        low, high = sorted(chance.sample(range(most_nodes), 2))
        contacts.append((chance.choice(("open", "close")), chance.choice(VARIABLES), low, high))
    return contacts


def text_of(contacts):
    lines = ["in i0", "in i1", "relay r0 at 1", "relay r1 at 2 up 3", "lamp l at 3"]
    lines += [f"{kind} {NAMES[variable]} {low} {high}" for kind, variable, low, high in contacts]
    return "".join([line + "\n" for line in lines])


def through(contacts, on, off):
    kept = {}
    for number, (kind, variable, low, high) in enumerate(contacts):
        if ((on if kind == "close" else off) >> variable) & 1:
            kept[number] = (low, high)
    return kept


def all_ways(kept, node):
    """Every way from the rail to node that comes by no node twice."""
    found = []
    begun = [((), 0, (0,))]
    while begun:
        way, here, seen = begun.pop()
        if here == node:
            found.append(way)
        else:
            for number, ends in kept.items():
                if here in ends:
                    there = ends[0] + ends[1] - here
                    if there not in seen:
                        begun.append((way + (number,), there, seen + (there,)))
    return found


def parts_of(bits):
    """All numbers whose bits are among bits, rising."""
    parts = [0]
    for bit in range(32):
        if bits >> bit & 1:
            parts += [part | 1 << bit for part in parts]
    return parts


def all_sums(contacts, node):
    """Conditions that suffice for node, of which none, one or several, can be left out; in order."""
    bits = sum([1 << variable for variable in VARIABLES])
    enough = [(on, off) for on in parts_of(bits) for off in parts_of(bits & ~on) if all_ways(through(contacts, on, off), node)]
    least = []
    for on, off in enough:
        fewer = [(on & some_on, off & some_off) for some_on, some_off in enough if some_on | on == on and some_off | off == off]
        if fewer == [(on, off)]:
            least.append((on, off))
    return sorted(least, key=lambda both: (bin(both[0] | both[1]).count("1"), both[0], both[1]))


class AgainstWords(unittest.TestCase):
    def test_many_schemes(self):
        chance = random.Random(20)
        for turn in range(250):
            most_nodes = chance.randrange(3, 7)
            contacts = some_contacts(chance, most_nodes)
            on = chance.getrandbits(32)
            off = chance.getrandbits(32) & ~on if turn % 3 else chance.getrandbits(32)
            self.hold(contacts, most_nodes, on, off)

    def hold(self, contacts, most_nodes, on, off):
        text = text_of(contacts)
        kept = through(contacts, on, ~on)
        live = []
        expected = []
        for node in range(most_nodes):
            ways = all_ways(kept, node)
            live.append(bool(ways))
            expected.append([0] + list(min(ways, key=lambda way: (len(way), way))) if ways else [-5])
        self.assertEqual(on_scheme(text, *[path(on, node) for node in range(most_nodes)]), expected, text)
        edge = [number for number, (kind, variable, low, high) in enumerate(contacts) if live[low] != live[high]]
        self.assertEqual(on_scheme(text, border(on)), [[0] + edge], text)
        clash = any([(on & off) >> variable & 1 for variable in VARIABLES])
        kept = through(contacts, on, off)
        told = [[-5] if clash else [0, int(bool(all_ways(kept, node)))] for node in range(most_nodes)]
        self.assertEqual(on_scheme(text, *[suffice(on, off, node) for node in range(most_nodes)]), told, text)

    def test_sums(self):
        chance = random.Random(21)
        for turn in range(60):
            most_nodes = chance.randrange(3, 6)
            contacts = some_contacts(chance, most_nodes)
            text = text_of(contacts)
            told = [[0] + [number for both in all_sums(contacts, node) for number in both] for node in range(most_nodes)]
            self.assertEqual(on_scheme(text, *[sums(node) for node in range(most_nodes)]), told, text)

    def test_first_and_matter(self):
        chance = random.Random(22)
        for turn in range(120):
            most_nodes = chance.randrange(3, 6)
            self.hold_states(some_contacts(chance, most_nodes), most_nodes)

    def hold_states(self, contacts, most_nodes):
        text = text_of(contacts)
        used = sum([1 << variable for variable in VARIABLES if variable in [contact[1] for contact in contacts]])
        states = parts_of(sum([1 << variable for variable in VARIABLES]))
        live = {}
        for state in states:
            kept = through(contacts, state, ~state)
            live[state] = [bool(all_ways(kept, node)) for node in range(most_nodes)]
        for k in range(most_nodes):
            mattering = [variable for variable in VARIABLES
                         if any([live[state][k] != live[state ^ 1 << variable][k] for state in states])]
            self.assertEqual(on_scheme(text, matter(k)), [[0] + mattering], text)
            for l in range(most_nodes):
                apart = [state for state in states if state & ~used == 0 and live[state][k] != live[state][l]]
                self.assertEqual(on_scheme(text, first(k, l)), [[0, apart[0]] if apart else [-5]], text)

    def test_live_just_if_one_of_its_sums_is(self):
        chance = random.Random(23)
        for turn in range(40):
            most_nodes = chance.randrange(3, 7)
            text = text_of(some_contacts(chance, most_nodes))
            state = chance.getrandbits(32)
            for node in range(most_nodes):
                told, way = on_scheme(text, sums(node), path(state, node))
                met = [on & ~state == 0 and off & state == 0 for on, off in zip(told[1::2], told[2::2])]
                self.assertEqual(any(met), way != [-5], text)


if __name__ == "__main__":
    unittest.main()
