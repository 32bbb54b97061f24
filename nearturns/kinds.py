"""All small webs, and their kinds (points 60 to 62)."""

from nearturns.errors import TooMany
from nearturns.reach import reached
from nearturns.ways import all_alike
from nearturns.webs import named, turned

MOST_LISTED = 4
MOST_COUNTED = 5


def refuse_above(many, most):
    """Refuse a number of places that is above the most that is looked at."""
    if many > most:
        raise TooMany(f"more than {most} places are not looked at")


def all_webs(many):
    """All webs of so many places, rising."""
    refuse_above(many, MOST_COUNTED)
    choices = [()]
    for low in range(many):
        for high in range(low + 1, many):
            choices = choices + [ties + ((low, high),) for ties in choices]
    return [(many, ties) for ties in sorted(choices)]


def swapped(web, place):
    """The web named anew by the order in which a place and the next one have changed."""
    order = list(range(web[0]))
    order[place], order[place + 1] = place + 1, place
    return named(web, tuple(order))


def wide_steps(web):
    """The webs to which one turn, or one change of neighbouring numbers, leads the web."""
    turns = [turned(web, place) for place in range(web[0])]
    # Each order comes of changes of neighbouring numbers, one behind the other.
    return turns + [swapped(web, place) for place in range(web[0] - 1)]


def wide_kind(web):
    """All webs of the web's wide kind, rising."""
    # Named anew a turned web is the web named anew and then turned:
    # so mixed steps lead nowhere but where an order, and turns behind it, lead.
    return reached(web, wide_steps)


def parted(many, kind_of):
    """All webs of so many places, parted into the kinds that kind_of tells of a web, by their first webs."""
    found = []
    known = {}
    # The webs rise, so the first one of a kind that comes up is its least one.
    for web in all_webs(many):
        if web not in known:
            kind = kind_of(web)
            found.append(kind)
            for other in kind:
                known[other] = True
    return found


def kinds(many):
    """All kinds of webs of so many places, by their first webs."""
    refuse_above(many, MOST_LISTED)
    return parted(many, all_alike)


def wide_kinds(many):
    """All wide kinds of webs of so many places, by their first webs."""
    refuse_above(many, MOST_LISTED)
    return parted(many, wide_kind)


def kinds_many(many):
    """How many kinds of webs of so many places there are."""
    refuse_above(many, MOST_COUNTED)
    return len(parted(many, all_alike))


def wide_kinds_many(many):
    """How many wide kinds of webs of so many places there are."""
    refuse_above(many, MOST_COUNTED)
    return len(parted(many, wide_kind))


def least_form(web):
    """The least web of the web's wide kind."""
    refuse_above(web[0], MOST_COUNTED)
    return wide_kind(web)[0]
