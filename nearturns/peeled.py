"""Close places, and places peeled off a web (points 80 to 82)."""

from nearturns.webs import is_place, near


def near_but(web, left, place, other):
    """The near places of a place among those that are left, but for the other one."""
    return [known for known in near(web, place) if known in left and known != other]


def goes_by(web, left, place, other):
    """Whether a place has no near place, or the same ones as the other, among those left but for each other."""
    around = near_but(web, left, place, other)
    return around == [] or around == near_but(web, left, other, place)


def is_loose(web, left, place):
    """Whether a place can be peeled off those that are left."""
    return any([goes_by(web, left, place, other) for other in left if other != place])


def close_places(web):
    """All pairs of close places, rising."""
    places = list(range(web[0]))
    pairs = [(low, high) for low in places for high in places if low < high]
    return [
        (low, high) for low, high in pairs
        if goes_by(web, places, low, high) or goes_by(web, places, high, low)
    ]


def can_go(web, place):
    """Whether a place can be peeled off the web."""
    return is_loose(web, list(range(web[0])), place)


def peeled(web):
    """The places that go when the web is peeled, in their order, and those that are left."""
    gone = []
    left = list(range(web[0]))
    loose = [place for place in left if is_loose(web, left, place)]
    while loose:
        gone.append(loose[0])
        left.remove(loose[0])
        loose = [place for place in left if is_loose(web, left, place)]
    return (tuple(gone), tuple(left))


def peels(web, thing):
    """Whether a thing, whatever it is, is a tuple of all places but one that peels the web down."""
    if not isinstance(thing, tuple) or len(thing) != web[0] - 1:
        return False
    left = list(range(web[0]))
    for place in thing:
        # Only places are looked up: True would be found in the stead of 1.
        if not is_place(web, place) or place not in left or not is_loose(web, left, place):
            return False
        left.remove(place)
    return True
