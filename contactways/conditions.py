"""Conditions: variables that are on and variables that are off, as bits."""

from contactways.scheme import RAIL
from contactways.ways import distances, links_of


def are_clashing(scheme, on, off):
    """Whether a variable of the scheme is both on and off."""
    return (on & off & scheme.bits) != 0


def are_sufficient(scheme, on, off, node):
    away = distances(links_of(scheme.contacts, on, off), RAIL)
    return away[node] is not None
