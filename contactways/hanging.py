"""What a node hangs on, found by going through all states of the used variables."""

from contactways.ways import is_among, live_nodes, off_in


def states_of(variables):
    """All states with bits of variables alone; they rise, as the variables do."""
    states = [0]
    for variable in variables:
        states = states + [state | (1 << variable) for state in states]
    return states


def live_by_state(scheme):
    """For each state with bits of used variables alone, in rising order, the live nodes as bits."""
    if scheme.live_table is None:
        live = {}
        for state in states_of(scheme.used):
            live[state] = live_nodes(scheme.contacts, state, off_in(state))
        scheme.live_table = live
    return scheme.live_table


def first_apart(scheme, node, other):
    """The least state in which just one of the two nodes is live, None if there is none."""
    live = live_by_state(scheme)
    for state, nodes in live.items():
        if is_among(nodes, node) != is_among(nodes, other):
            return state
    return None


def does_matter(live, variable, node):
    for state, nodes in live.items():
        turned = live[state ^ (1 << variable)]
        if is_among(nodes, node) != is_among(turned, node):
            return True
    return False


def variables_that_matter(scheme, node):
    """The variables that matter to node, rising; one that isn't used changes nothing, so it can't."""
    live = live_by_state(scheme)
    return [variable for variable in scheme.used if does_matter(live, variable, node)]
