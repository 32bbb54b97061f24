"""Sides of webs and their ranks (points 20 to 22)."""

from nearturns.errors import NoPlaces
from nearturns.webs import near


def row_bits(web, side, place):
    """The row of a place of a side: a number whose bit k is 1 where place k is in the row."""
    return sum([1 << other for other in near(web, place) if other not in side])


def cut_rank(web, side):
    """The rank of a side of the web."""
    kept = []
    for place in side:
        row = row_bits(web, side, place)
        # Each kept row lacks the highest bits of those kept ahead of it, so taking
        # the lesser number clears these bits one by one: what is a sum of kept rows ends at 0.
        for known in kept:
            row = min(row, row ^ known)
        if row > 0:
            kept.append(row)
    return len(kept)


def all_sides(places):
    """All sides of webs of so many places, those of fewer places ahead, of as many as tuples compare."""
    sides = []
    level = [()]
    while level:
        sides.extend(level)
        level = [side + (place,) for side in level for place in range(places) if place > max(side, default=-1)]
    return sides


def all_ranks(web):
    """A tuple (side, rank) for each side of the web."""
    return [(side, cut_rank(web, side)) for side in all_sides(web[0])]


def rank_counts(web):
    """A tuple that has at place r how many sides of the web have rank r."""
    ranks = [cut_rank(web, side) for side in all_sides(web[0])]
    return tuple([ranks.count(rank) for rank in range(max(ranks) + 1)])


def first_apart(one, other):
    """The first side that has unlike ranks in both webs, None where there is none."""
    if one[0] != other[0]:
        raise NoPlaces("the webs have unlike numbers of places")
    for side in all_sides(one[0]):
        if cut_rank(one, side) != cut_rank(other, side):
            return side
    return None
