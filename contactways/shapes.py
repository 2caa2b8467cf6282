"""The shapes that a line of a scheme's text can have."""

from contactways.scheme import NODES

INPUTS = 0
RELAYS = 1
LAMPS = 2
CONTACTS = 3

LETTERS = "abcdefghijklmnopqrstuvwxyz"
DIGITS = "0123456789"
LONGEST_NAME = 12
LONGEST_NUMBER = 5
MOST_TICKS = 65535


class Line:
    """A line that has a shape: its rank among the sorts, its name, and what a contact has besides."""

    def __init__(self, rank, name, low=0, high=0, closer=False):
        self.rank = rank
        self.name = name
        self.low = low
        self.high = high
        self.closer = closer


def is_name(part):
    if part == "" or len(part) > LONGEST_NAME:
        return False
    return part[0] in LETTERS and all([sign in LETTERS or sign in DIGITS for sign in part])


def read_number(part):
    """The number that part tells, None if it tells none; one of too many digits is above every range."""
    if part == "" or len(part) > LONGEST_NUMBER:
        return None
    if part[0] == "0" and part != "0":
        return None
    if not all([sign in DIGITS for sign in part]):
        return None
    return int(part)


def read_node(part):
    number = read_number(part)
    if number is None or number >= NODES:
        return None
    return number


def is_ticks(part):
    number = read_number(part)
    return number is not None and 1 <= number <= MOST_TICKS


def are_delays(parts):
    """Whether parts are up and ticks, down and ticks, both in this order, or nothing."""
    rest = parts
    for word in ("up", "down"):
        if len(rest) >= 2 and rest[0] == word and is_ticks(rest[1]):
            rest = rest[2:]
    return rest == []


def is_place(parts):
    return len(parts) == 2 and parts[0] == "at" and read_node(parts[1]) is not None


def read_contact(name, closer, parts):
    if len(parts) != 2:
        return None
    low = read_node(parts[0])
    high = read_node(parts[1])
    if low is None or high is None or low >= high:
        return None
    return Line(CONTACTS, name, low, high, closer)


def read_line(text):
    """The line that text is, None if it is of no shape."""
    parts = text.split(" ")
    if len(parts) < 2 or not is_name(parts[1]):
        return None
    word = parts[0]
    name = parts[1]
    rest = parts[2:]
    if word == "in" and rest == []:
        return Line(INPUTS, name)
    if word == "relay" and is_place(rest[:2]) and are_delays(rest[2:]):
        return Line(RELAYS, name)
    if word == "lamp" and is_place(rest):
        return Line(LAMPS, name)
    if word == "open" or word == "close":
        return read_contact(name, word == "close", rest)
    return None
