"""Webs, their turns, their orders and their pieces (points 10 to 12)."""

MOST_PLACES = 8


def is_whole(thing):
    """Whether a thing is a whole number."""
    # For isinstance, True and False are integers; here they are none.
    return isinstance(thing, int) and not isinstance(thing, bool)


def is_tie(places, thing):
    """Whether a thing is a tuple of two of so many places, the lesser one ahead."""
    if not isinstance(thing, tuple) or len(thing) != 2:
        return False
    low, high = thing
    return is_whole(low) and is_whole(high) and 0 <= low < high < places


def are_ties(places, thing):
    """Whether a thing is a rising tuple of ties of so many places."""
    if not isinstance(thing, tuple):
        return False
    # Only what is known to be a tie can be compared with another one.
    if not all([is_tie(places, tie) for tie in thing]):
        return False
    return all([thing[k] < thing[k + 1] for k in range(len(thing) - 1)])


def is_web(thing):
    """Whether a thing, whatever it is, is a web."""
    if not isinstance(thing, tuple) or len(thing) != 2:
        return False
    places, ties = thing
    return is_whole(places) and 1 <= places <= MOST_PLACES and are_ties(places, ties)


def is_place(web, thing):
    """Whether a thing, whatever it is, is a place of the web."""
    return is_whole(thing) and 0 <= thing < web[0]


def near(web, place):
    """The rising tuple of the places that are tied to a place."""
    below = [low for low, high in web[1] if high == place]
    above = [high for low, high in web[1] if low == place]
    return tuple(below + above)


def turned(web, place):
    """The web turned at a place."""
    places, ties = web
    around = near(web, place)
    pairs = [(low, high) for low in around for high in around if low < high]
    return (places, tuple(sorted(set(ties) ^ set(pairs))))


def turned_along(web, row):
    """The web turned at each place of a row, one behind the other."""
    for place in row:
        web = turned(web, place)
    return web


def named(web, order):
    """The web whose place k is the place order[k] of the given one."""
    places = web[0]
    pairs = [(low, high) for low in range(places) for high in range(low + 1, places)]
    return (places, tuple([(low, high) for low, high in pairs if order[high] in near(web, order[low])]))


def piece_of(web, place):
    """The rising tuple of the places that ties join with a place, itself too."""
    joined = []
    waiting = [place]
    while waiting:
        reached = waiting.pop()
        if reached not in joined:
            joined.append(reached)
            waiting.extend(near(web, reached))
    return tuple(sorted(joined))


def pieces(web):
    """The pieces of the web, by their least places."""
    found = []
    for place in range(web[0]):
        if not any([place in piece for piece in found]):
            found.append(piece_of(web, place))
    return found
