"""What a scheme of contacts keeps."""

RAIL = 0
NODES = 64
FIRST_RELAY = 16
GREATEST_STATE = 4294967295


class Contact:
    """A contact between two nodes; closer is True or, of an opener, False."""

    def __init__(self, low, high, closer, variable):
        self.low = low
        self.high = high
        self.closer = closer
        self.variable = variable


class Scheme:
    """The bits of the scheme's variables, its contacts in order, and its used variables, rising.

    Lamps, coils and delays are not kept: no call asks for them.
    """

    def __init__(self, bits, contacts):
        self.bits = bits
        self.contacts = contacts
        self.used = sorted(set([contact.variable for contact in contacts]))
        # Each is worked out when first asked for: many calls on one scheme then share the work.
        self.least_conditions = None
        self.live_table = None


def is_state(number):
    return 0 <= number <= GREATEST_STATE


def is_node(number):
    return 0 <= number < NODES
