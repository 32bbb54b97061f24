"""Webs that are alike, and the ways that lead from one to another (points 30 and 31)."""

from nearturns.errors import TooMany
from nearturns.webs import is_place, turned, turned_along

MOST_TURNS = 40
MOST_SEARCHED = 6


def is_row(web, thing):
    """Whether a thing, whatever it is, is a row of turns of the web."""
    if not isinstance(thing, tuple) or len(thing) > MOST_TURNS:
        return False
    return all([is_place(web, place) for place in thing])


def leads(one, other, thing):
    """Whether a thing, whatever it is, is a row of turns that leads the one web to the other."""
    return is_row(one, thing) and turned_along(one, thing) == other


def refuse_large(web):
    """Refuse a web that has too many places for all alike ones to be looked at."""
    if web[0] > MOST_SEARCHED:
        raise TooMany(f"webs of more than {MOST_SEARCHED} places are not searched")


def least_rows(web):
    """For each web that is alike with the given one, the least of the shortest rows that lead to it."""
    rows = {web: ()}
    level = [web]
    while level:
        later = []
        # A level is in the order of its rows, and places rise: so the row
        # by which a web is reached first is the least one of its length.
        for known in level:
            for place in range(web[0]):
                fresh = turned(known, place)
                if fresh not in rows:
                    rows[fresh] = rows[known] + (place,)
                    later.append(fresh)
        level = later
    return rows


def all_alike(web):
    """All webs that are alike with the given one, rising."""
    refuse_large(web)
    return sorted(least_rows(web))


def are_alike(one, other):
    """Whether two webs are alike."""
    refuse_large(one)
    refuse_large(other)
    return other in least_rows(one)


def way(one, other):
    """The least of the shortest rows that lead the one web to the other, None where they are not alike."""
    refuse_large(one)
    refuse_large(other)
    return least_rows(one).get(other)
