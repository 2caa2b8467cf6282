"""Holds many small schemes against a slow reading of the document's words."""

import random
import unittest

from tests.calling import border, on_scheme, path, suffice

INPUTS = 2
RELAYS = 2
VARIABLES = (0, 1, 16, 17)
NAMES = {0: "i0", 1: "i1", 16: "r0", 17: "r1"}


def some_contacts(chance, most_nodes):
    contacts = []
    for number in range(chance.randrange(1, 11)):
        low, high = sorted(chance.sample(range(most_nodes), 2))
        contacts.append((chance.choice(("open", "close")), chance.choice(VARIABLES), low, high))
    return contacts


def text_of(contacts):
    lines = ["in i0", "in i1", "relay r0 at 1", "relay r1 at 2 up 3", "lamp l at 3"]
    lines += [f"{kind} {NAMES[variable]} {low} {high}" for kind, variable, low, high in contacts]
    return "".join([line + "\n" for line in lines])


def through(contacts, on, off):
    kept = {}
    for number, (kind, variable, low, high) in enumerate(contacts):
        if ((on if kind == "close" else off) >> variable) & 1:
            kept[number] = (low, high)
    return kept


def all_ways(kept, node):
    """Every way from the rail to node that comes by no node twice."""
    found = []
    begun = [((), 0, (0,))]
    while begun:
        way, here, seen = begun.pop()
        if here == node:
            found.append(way)
        else:
            for number, ends in kept.items():
                if here in ends:
                    there = ends[0] + ends[1] - here
                    if there not in seen:
                        begun.append((way + (number,), there, seen + (there,)))
    return found


class AgainstWords(unittest.TestCase):
    def test_many_schemes(self):
        chance = random.Random(20)
        for turn in range(250):
            most_nodes = chance.randrange(3, 7)
            contacts = some_contacts(chance, most_nodes)
            on = chance.getrandbits(32)
            off = chance.getrandbits(32) & ~on if turn % 3 else chance.getrandbits(32)
            self.hold(contacts, most_nodes, on, off)

    def hold(self, contacts, most_nodes, on, off):
        text = text_of(contacts)
        kept = through(contacts, on, ~on)
        live = []
        expected = []
        for node in range(most_nodes):
            ways = all_ways(kept, node)
            live.append(bool(ways))
            expected.append([0] + list(min(ways, key=lambda way: (len(way), way))) if ways else [-5])
        self.assertEqual(on_scheme(text, *[path(on, node) for node in range(most_nodes)]), expected, text)
        edge = [number for number, (kind, variable, low, high) in enumerate(contacts) if live[low] != live[high]]
        self.assertEqual(on_scheme(text, border(on)), [[0] + edge], text)
        clash = any([(on & off) >> variable & 1 for variable in VARIABLES])
        kept = through(contacts, on, off)
        told = [[-5] if clash else [0, int(bool(all_ways(kept, node)))] for node in range(most_nodes)]
        self.assertEqual(on_scheme(text, *[suffice(on, off, node) for node in range(most_nodes)]), told, text)


if __name__ == "__main__":
    unittest.main()
