"""Answers calls on one scheme of contacts."""

from contactways.conditions import are_clashing, are_sufficient, sums_of
from contactways.hanging import first_apart, variables_that_matter
from contactways.reading import first_fault, read_lines, scheme_of
from contactways.scheme import Scheme, is_node, is_state
from contactways.ways import border_of, way_told

LOAD = 1
PATH = 2
BORDER = 3
SUFFICE = 4
SUMS = 5
FIRST = 6
MATTER = 7
# How many whole numbers stand behind the number of each call but load, whose text tells its own length.
ARGUMENTS = {2: 2, 3: 1, 4: 3, 5: 1, 6: 2, 7: 1}

OUT_OF_RANGE = -1
NOT_SO = -5
TOO_MANY_USED = -9
MOST_BYTES = 20000
MOST_USED_FOR_SUMS = 6
MOST_USED_FOR_STATES = 8


class Cabinet:
    """The object of the calls; each method gives back the numbers that its call answers."""

    def __init__(self):
        self.scheme = Scheme(0, [])

    def load(self, text):
        if len(text) > MOST_BYTES:
            return [OUT_OF_RANGE]
        lines = read_lines(text)
        fault = first_fault(lines)
        if fault == (0, 0):
            self.scheme = scheme_of(lines)
        return [0, fault[0], fault[1]]

    def path(self, state, node):
        if not is_state(state) or not is_node(node):
            return [OUT_OF_RANGE]
        way = way_told(self.scheme.contacts, state, node)
        if way is None:
            return [NOT_SO]
        return [0] + way

    def border(self, state):
        if not is_state(state):
            return [OUT_OF_RANGE]
        return [0] + border_of(self.scheme.contacts, state)

    def suffice(self, on, off, node):
        if not is_state(on) or not is_state(off) or not is_node(node):
            return [OUT_OF_RANGE]
        if are_clashing(self.scheme, on, off):
            return [NOT_SO]
        if are_sufficient(self.scheme, on, off, node):
            return [0, 1]
        return [0, 0]

    def sums(self, node):
        if not is_node(node):
            return [OUT_OF_RANGE]
        if len(self.scheme.used) > MOST_USED_FOR_SUMS:
            return [TOO_MANY_USED]
        told = [0]
        for on, off in sums_of(self.scheme, node):
            told.extend([on, off])
        return told

    def first(self, node, other):
        if not is_node(node) or not is_node(other):
            return [OUT_OF_RANGE]
        if len(self.scheme.used) > MOST_USED_FOR_STATES:
            return [TOO_MANY_USED]
        state = first_apart(self.scheme, node, other)
        if state is None:
            return [NOT_SO]
        return [0, state]

    def matter(self, node):
        if not is_node(node):
            return [OUT_OF_RANGE]
        if len(self.scheme.used) > MOST_USED_FOR_STATES:
            return [TOO_MANY_USED]
        return [0] + variables_that_matter(self.scheme, node)


def end_of(calls, place):
    """Where the call that begins at place ends."""
    if calls[place] == LOAD:
        return place + 2 + calls[place + 1]
    return place + 1 + ARGUMENTS[calls[place]]


def answer(cabinet, call):
    if call[0] == PATH:
        return cabinet.path(call[1], call[2])
    if call[0] == BORDER:
        return cabinet.border(call[1])
    if call[0] == SUFFICE:
        return cabinet.suffice(call[1], call[2], call[3])
    if call[0] == SUMS:
        return cabinet.sums(call[1])
    if call[0] == FIRST:
        return cabinet.first(call[1], call[2])
    if call[0] == MATTER:
        return cabinet.matter(call[1])
    # It is load: end_of lets no other number by.
    return cabinet.load(call[2:])


def answers(calls):
    """For each call in order how many numbers it answers, and these."""
    cabinet = Cabinet()
    told = []
    place = 0
    while place < len(calls):
        end = end_of(calls, place)
        numbers = answer(cabinet, calls[place:end])
        told.append(len(numbers))
        told.extend(numbers)
        place = end
    return told
