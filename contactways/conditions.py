"""Conditions: variables that are on and variables that are off, as bits; and sums, the least that suffice."""

from contactways.scheme import RAIL
from contactways.ways import distances, is_among, links_of, live_nodes


def are_clashing(scheme, on, off):
    """Whether a variable of the scheme is both on and off."""
    return (on & off & scheme.bits) != 0


def are_sufficient(scheme, on, off, node):
    away = distances(links_of(scheme.contacts, on, off), RAIL)
    return away[node] is not None


def conditions_on(variables):
    """All conditions on variables, each as how many it has, those on, those off; in the order of sums."""
    rows = [(0, 0, 0)]
    for variable in variables:
        bit = 1 << variable
        with_on = [(many + 1, on | bit, off) for many, on, off in rows]
        with_off = [(many + 1, on, off | bit) for many, on, off in rows]
        rows = rows + with_on + with_off
    return sorted(rows)


def with_one_left_out(variables, on, off):
    """The conditions that are left where one variable of on and off is left out, for each of them."""
    fewer = []
    for variable in variables:
        bit = 1 << variable
        if (on | off) & bit != 0:
            fewer.append((on & ~bit, off & ~bit))
    return fewer


def find_least_conditions(scheme):
    """Conditions in the order of sums, each as those on, those off, and the nodes, as bits, whose sum it is."""
    reached = {}
    least = []
    # No sum has a variable that isn't used: it can be left out.
    for many, on, off in conditions_on(scheme.used):
        nodes = live_nodes(scheme.contacts, on, off)
        reached[(on, off)] = nodes
        # More conditions never reach less, so where no single one can be left out, no several can.
        for fewer in with_one_left_out(scheme.used, on, off):
            nodes = nodes & ~reached[fewer]
        if nodes != 0:
            least.append((on, off, nodes))
    return least


def sums_of(scheme, node):
    """The sums of node in order, each as those on and those off."""
    if scheme.least_conditions is None:
        scheme.least_conditions = find_least_conditions(scheme)
    return [(on, off) for on, off, nodes in scheme.least_conditions if is_among(nodes, node)]
