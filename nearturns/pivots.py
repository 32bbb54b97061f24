"""Pivots at ties, what they lead to, and two-sided webs (points 40 to 42)."""

from nearturns.errors import NoTie
from nearturns.reach import reached
from nearturns.ways import refuse_large
from nearturns.webs import is_place, near, pieces, turned_along


def are_tied(web, one, other):
    """Whether two things, whatever they are, are two tied places of the web."""
    # Only places are looked up: True would be found in the stead of 1.
    return is_place(web, one) and is_place(web, other) and other in near(web, one)


def pivoted(web, one, other):
    """The web pivoted at two tied places."""
    if not are_tied(web, one, other):
        raise NoTie("a pivot is at two tied places")
    return turned_along(web, (one, other, one))


def pivoted_along(web, row):
    """The web pivoted at each two of a row, one behind the other."""
    for one, other in row:
        web = pivoted(web, one, other)
    return web


def each_pivot(web):
    """The webs to which one pivot leads the web."""
    return [pivoted(web, low, high) for low, high in web[1]]


def all_pivots(web):
    """All webs to which rows of pivots lead the web, itself too, rising."""
    refuse_large(web)
    return reached(web, each_pivot)


def by_pivots(one, other):
    """Whether a row of pivots leads the one web to the other."""
    refuse_large(one)
    refuse_large(other)
    return other in reached(one, each_pivot)


def steps_apart(web):
    """For each place 0 or 1: whether some walk to it from the least place of its piece is of even or odd steps."""
    apart = {}
    for piece in pieces(web):
        apart[piece[0]] = 0
        waiting = [piece[0]]
        while waiting:
            place = waiting.pop()
            for other in near(web, place):
                if other not in apart:
                    apart[other] = 1 - apart[place]
                    waiting.append(other)
    return apart


def two_sides(web):
    """The places on the side of the least place of their piece, None where the web is not two-sided."""
    apart = steps_apart(web)
    # Ties alone settle the sides of a piece, so one tie within a side means that no parting will do.
    if any([apart[low] == apart[high] for low, high in web[1]]):
        return None
    return tuple([place for place in range(web[0]) if apart[place] == 0])
