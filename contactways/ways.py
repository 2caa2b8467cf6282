"""Ways through the contacts that let through, and the border of what is live.

What lets through is told by two numbers, the variables that are on and those that are off, as bits:
so the same walk serves a state, of which each variable is one or the other, and conditions.
"""

from contactways.scheme import GREATEST_STATE, NODES, RAIL


def off_in(state):
    return GREATEST_STATE - state


def lets_through(contact, on, off):
    working = on if contact.closer else off
    return (working >> contact.variable) % 2 == 1


def links_of(contacts, on, off):
    """For each node the contacts that let through there, rising, each with the node it leads to."""
    links = [[] for node in range(NODES)]
    for number, contact in enumerate(contacts):
        if lets_through(contact, on, off):
            links[contact.low].append((number, contact.high))
            links[contact.high].append((number, contact.low))
    return links


def distances(links, start):
    """How many contacts each node lies away from start, None where none lead to it."""
    away = [None for node in range(NODES)]
    away[start] = 0
    reached = [start]
    done = 0
    while done < len(reached):
        here = reached[done]
        done += 1
        for number, node in links[here]:
            if away[node] is None:
                away[node] = away[here] + 1
                reached.append(node)
    return away


def live_nodes(contacts, on, off):
    """The nodes, as bits, to which what lets through leads from the rail."""
    away = distances(links_of(contacts, on, off), RAIL)
    return sum([1 << node for node in range(NODES) if away[node] is not None])


def is_among(nodes, node):
    return (nodes >> node) % 2 == 1


def first_nearer(links, away, here):
    """The link of the least contact that leads from here one contact nearer."""
    for link in links[here]:
        if away[link[1]] == away[here] - 1:
            return link
    return None


def way_told(contacts, state, node):
    """The contacts' numbers of the way told to node, None if node isn't live."""
    links = links_of(contacts, state, off_in(state))
    # Counted from the way's end, so that from the rail on each least contact that leads nearer is the way's.
    away = distances(links, node)
    if away[RAIL] is None:
        return None
    way = []
    here = RAIL
    while here != node:
        link = first_nearer(links, away, here)
        way.append(link[0])
        here = link[1]
    return way


def border_of(contacts, state):
    """The numbers of the contacts of whose two nodes just one is live."""
    away = distances(links_of(contacts, state, off_in(state)), RAIL)
    border = []
    for number, contact in enumerate(contacts):
        if (away[contact.low] is None) != (away[contact.high] is None):
            border.append(number)
    return border
