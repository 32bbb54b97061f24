"""Places left out of webs, and the webs that lie under a web (points 70, 72 and 73)."""

from nearturns.errors import NoPlaces
from nearturns.ways import all_alike, refuse_large
from nearturns.webs import is_place, near, turned, turned_along

MOST_STEPS = 60


def lowered(place, gone):
    """The number that a place has when another one is gone."""
    return place - 1 if place > gone else place


def without(web, gone):
    """The web without a place, as it is."""
    places, ties = web
    kept = [tie for tie in ties if gone not in tie]
    return (places - 1, tuple([(lowered(low, gone), lowered(high, gone)) for low, high in kept]))


def left_out(web, place):
    """The three lesser webs of the web by a place."""
    if web[0] == 1:
        raise NoPlaces("the only place of a web is not left out")
    # A turn at a place without near places changes nothing: so the third way is then as it is, too.
    least_near = near(web, place)[:1]
    rows = ((), (place,), least_near + (place,))
    return tuple([without(turned_along(web, row), place) for row in rows])


def webs_under(web, places):
    """All webs with so many places, at most the web's, that lie under the web, rising."""
    level = all_alike(web)
    # A turn at a place that stays comes to the same ahead of another one's going as behind it:
    # so all turns may go first, and only places go from then on.
    for fewer in range(web[0] - places):
        level = sorted({without(known, gone) for known in level for gone in range(known[0])})
    return level


def lies_under(small, web):
    """Whether the small web lies under the other one."""
    refuse_large(web)
    return small[0] <= web[0] and small in webs_under(web, small[0])


def all_under(web, places):
    """All webs with so many places that lie under the web, rising."""
    refuse_large(web)
    if not 1 <= places <= web[0]:
        raise NoPlaces("no web with so many places lies under the web")
    return webs_under(web, places)


def is_step(web, thing):
    """Whether a thing, whatever it is, is a step that can be made from the web."""
    if not isinstance(thing, tuple) or len(thing) != 2:
        return False
    word, place = thing
    if not is_place(web, place):
        return False
    # The only place stays: without it there is no web.
    return word == "turn" or (word == "leave" and web[0] > 1)


def leads_under(web, small, thing):
    """Whether a thing, whatever it is, is a tuple of steps that leads the web to the small one."""
    if not isinstance(thing, tuple) or len(thing) > MOST_STEPS:
        return False
    for step in thing:
        if not is_step(web, step):
            return False
        word, place = step
        web = turned(web, place) if word == "turn" else without(web, place)
    return web == small
