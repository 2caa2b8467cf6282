"""Writes calls as the interface asks, and tells apart what each of them answers."""

from contactways.cabinet import answers


def load(text):
    data = list(text.encode("latin-1")) if isinstance(text, str) else list(text)
    return [1, len(data)] + data


def path(x, k):
    return [2, x, k]


def border(x):
    return [3, x]


def suffice(on, off, k):
    return [4, on, off, k]


def sums(k):
    return [5, k]


def first(k, l):
    return [6, k, l]


def matter(k):
    return [7, k]


def inputs(many):
    """The lines of so many inputs: i0, i1 and on."""
    return "".join([f"in i{number}\n" for number in range(many)])


def relays(many):
    """The lines of so many relays: r0, r1 and on."""
    return "".join([f"relay r{number} at 1\n" for number in range(many)])


def closers(many):
    """Inputs and for each of them a closer between nodes 0 and 1."""
    return inputs(many) + "".join([f"close i{number} 0 1\n" for number in range(many)])


def run(*calls):
    """The answers to calls on one new object, a list for each call."""
    told = answers([number for call in calls for number in call])
    each = []
    place = 0
    while place < len(told):
        end = place + 1 + told[place]
        each.append(told[place + 1:end])
        place = end
    if place != len(told) or len(each) != len(calls):
        raise AssertionError(f"lengths do not fit: {told}")
    return each


def on_scheme(text, *calls):
    """The answers to calls on the scheme of text, which must be without fault."""
    each = run(load(text), *calls)
    if each[0] != [0, 0, 0]:
        raise AssertionError(f"no scheme: {each[0]}")
    return each[1:]


def fault(text):
    """What load answers of text on a new object, without the 0 at its beginning."""
    told = run(load(text))[0]
    if len(told) != 3 or told[0] != 0:
        raise AssertionError(f"not a kind and a line: {told}")
    return (told[1], told[2])
