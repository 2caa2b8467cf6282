"""Reads a scheme's text: its lines, its first fault, its scheme."""

from contactways.scheme import Contact, FIRST_RELAY, Scheme
from contactways.shapes import CONTACTS, DIGITS, INPUTS, LETTERS, RELAYS, read_line

MOST_LINES = (16, 12, 16, 256)
NO_SHAPE = 1
OUT_OF_ORDER = 2
TOO_MANY = 3
GIVEN_BEFORE = 4
NOBODY = 5


def sign_of(byte):
    if byte == 10:
        return "\n"
    if byte == 32:
        return " "
    if 48 <= byte <= 57:
        return DIGITS[byte - 48]
    if 97 <= byte <= 122:
        return LETTERS[byte - 97]
    # No shape has any other byte, so one sign that no shape has can stand for them all.
    return "?"


def read_lines(text):
    """The lines of a text that is given as bytes, None for each that is of no shape."""
    pieces = "".join([sign_of(byte) for byte in text]).split("\n")
    lines = [read_line(piece) for piece in pieces[:-1]]
    if pieces[-1] != "":
        # Byte 10 is missing behind it, so whatever it says it has no shape.
        lines.append(None)
    return lines


def faults_of_order(lines):
    faults = []
    latest = INPUTS
    for number, line in enumerate(lines):
        if line.rank < latest:
            faults.append((OUT_OF_ORDER, number))
        latest = max(latest, line.rank)
    return faults


def faults_of_many(lines):
    faults = []
    counts = [0, 0, 0, 0]
    for number, line in enumerate(lines):
        counts[line.rank] += 1
        if counts[line.rank] == MOST_LINES[line.rank] + 1:
            faults.append((TOO_MANY, number))
    return faults


def faults_of_names(lines):
    faults = []
    given = {}
    for number, line in enumerate(lines):
        if line.rank != CONTACTS:
            if line.name in given:
                faults.append((GIVEN_BEFORE, number))
            given[line.name] = True
    return faults


def faults_of_contacts(lines):
    variables = variables_of(lines)
    faults = []
    for number, line in enumerate(lines):
        if line.rank == CONTACTS and line.name not in variables:
            faults.append((NOBODY, number))
    return faults


def first_fault(lines):
    """The kind and the line of the first fault, 0 and 0 if there is none."""
    shapeless = [(NO_SHAPE, number) for number, line in enumerate(lines) if line is None]
    if shapeless != []:
        return shapeless[0]
    faults = faults_of_order(lines) + faults_of_many(lines) + faults_of_names(lines) + faults_of_contacts(lines)
    return min(faults, default=(0, 0))


def variables_of(lines):
    """The variable of each input's and each relay's name."""
    inputs = [line.name for line in lines if line.rank == INPUTS]
    relays = [line.name for line in lines if line.rank == RELAYS]
    variables = {}
    for number, name in enumerate(inputs):
        variables[name] = number
    for number, name in enumerate(relays):
        variables[name] = FIRST_RELAY + number
    return variables


def scheme_of(lines):
    """The scheme of lines that have no fault."""
    variables = variables_of(lines)
    bits = sum([1 << variable for variable in variables.values()])
    contacts = []
    for line in lines:
        if line.rank == CONTACTS:
            contacts.append(Contact(line.low, line.high, line.closer, variables[line.name]))
    return Scheme(bits, contacts)
