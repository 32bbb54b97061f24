"""What the tests share: webs to ask about, and the document's words put plainly.

Nothing here calls the program, so that a fault of the program can't hide itself.
"""

import itertools
import random


def pairs(places):
    return list(itertools.combinations(range(places), 2))


def all_webs(places):
    """Every web of so many places."""
    ties = pairs(places)
    return [
        (places, some)
        for many in range(len(ties) + 1)
        for some in itertools.combinations(ties, many)
    ]


def small_webs(most):
    """Every web of one to so many places."""
    return [web for places in range(1, most + 1) for web in all_webs(places)]


def drawn_web(draw, places):
    share = draw.choice((0.2, 0.4, 0.6, 0.8))
    return (places, tuple(tie for tie in pairs(places) if draw.random() < share))


def drawn_webs(seed, many, least, most):
    """So many drawn webs, the same ones each time; each number of places in turn."""
    draw = random.Random(seed)
    sizes = itertools.cycle(range(least, most + 1))
    return [drawn_web(draw, next(sizes)) for turn in range(many)]


def empty(places):
    return (places, ())


def full(places):
    return (places, tuple(pairs(places)))


def path(places):
    return (places, tuple((low, low + 1) for low in range(places - 1)))


def star(places):
    return (places, tuple((0, high) for high in range(1, places)))


def ring(places):
    return (places, tuple(sorted([(0, places - 1), *path(places)[1]])))


def tied(web, one, other):
    return (min(one, other), max(one, other)) in web[1]


def plain_near(web, place):
    return tuple(other for other in range(web[0]) if other != place and tied(web, place, other))


def plain_turned(web, place):
    """Pair by pair: a pair of two near places changes, all else stays."""
    around = plain_near(web, place)
    return (
        web[0],
        tuple(
            (low, high)
            for low, high in pairs(web[0])
            if tied(web, low, high) != (low in around and high in around)
        ),
    )


def plain_along(web, row):
    for place in row:
        web = plain_turned(web, place)
    return web


def plain_pieces(web):
    """Lots of places, put together tie by tie."""
    lots = [{place} for place in range(web[0])]
    for low, high in web[1]:
        first = next(lot for lot in lots if low in lot)
        second = next(lot for lot in lots if high in lot)
        if first is not second:
            lots.remove(second)
            first |= second
    return sorted(tuple(sorted(lot)) for lot in lots)


def plain_sides(places):
    return [side for many in range(places + 1) for side in itertools.combinations(range(places), many)]


def sums_are_filled(rows):
    """Whether no sum of some of these rows, one at least, is empty."""
    sums = [frozenset()]
    for row in rows:
        sums += [known ^ row for known in sums]
    return all(sums[1:])


def plain_rank(web, side):
    """The greatest number of places of the side such that no sum of some of their rows is empty."""
    rows = [frozenset(set(plain_near(web, place)) - set(side)) for place in side]
    return max(
        many
        for many in range(len(side) + 1)
        if any(sums_are_filled(some) for some in itertools.combinations(rows, many))
    )


def plain_reach(web, steps):
    """The set of all webs to which steps lead; steps tells of a web those that are one step away."""
    found = {web}
    waiting = [web]
    while waiting:
        for fresh in set(steps(waiting.pop())) - found:
            found.add(fresh)
            waiting.append(fresh)
    return found


def plain_alike(web):
    """The set of all webs to which turns lead."""
    return plain_reach(web, lambda known: [plain_turned(known, place) for place in range(web[0])])


def plain_pivoted(web, one, other):
    """By its three turns."""
    return plain_along(web, (one, other, one))


def plain_pivots(web):
    """The set of all webs to which pivots lead."""
    return plain_reach(web, lambda known: [plain_pivoted(known, low, high) for low, high in known[1]])


def plain_named(web, order):
    """Place k of what comes of it is the place order[k] of the web."""
    return (web[0], tuple((low, high) for low, high in pairs(web[0]) if tied(web, order[low], order[high])))


def plain_renamed(web):
    """The set of all webs that the web is, named anew."""
    return {plain_named(web, order) for order in itertools.permutations(range(web[0]))}


def plain_wide(web):
    """The set of all webs that are alike with the web named anew, by whichever order."""
    return set().union(*map(plain_alike, plain_renamed(web)))


def plain_without(web, gone):
    """The web of all other places, each by how many of them are below it."""
    stay = [place for place in range(web[0]) if place != gone]
    ties = [pair for pair in pairs(len(stay)) if tied(web, stay[pair[0]], stay[pair[1]])]
    return (len(stay), tuple(ties))


def plain_steps_under(web):
    """The webs to which one turn, or one place left out, leads."""
    turns = [plain_turned(web, place) for place in range(web[0])]
    return turns + [plain_without(web, place) for place in range(web[0]) if web[0] > 1]


def plain_under(web):
    """The set of all webs that lie under the web, itself too: turns and places left out in whatever order."""
    return plain_reach(web, plain_steps_under)


def plain_goes(web, left, place, other):
    """Whether the place has, but for the other, no near place among those left, or the same as the other but for it."""
    around = (set(plain_near(web, place)) & set(left)) - {other}
    theirs = (set(plain_near(web, other)) & set(left)) - {place}
    return not around or around == theirs


def plain_loose(web, left):
    """The places that can be peeled off those that are left."""
    return [place for place in left if any(plain_goes(web, left, place, other) for other in left if other != place)]


def turns_to(web):
    """How few turns lead from each alike web to this one."""
    turns = {web: 0}
    waiting = [web]
    for known in waiting:
        for place in range(web[0]):
            fresh = plain_turned(known, place)
            if fresh not in turns:
                turns[fresh] = turns[known] + 1
                waiting.append(fresh)
    return turns


def plain_way(one, turns):
    """The least shortest row to the web of these turns: at each step the least place that comes nearer."""
    if one not in turns:
        return None
    row = []
    while turns[one] > 0:
        place = next(at for at in range(one[0]) if turns[plain_turned(one, at)] < turns[one])
        row.append(place)
        one = plain_turned(one, place)
    return tuple(row)


def nested(inmost, kind, depth):
    """A thing so deep in lists, tuples or dicts."""
    thing = inmost
    for level in range(depth):
        if kind is dict:
            thing = {level: thing}
        else:
            thing = kind([thing])
    return thing


def odd_things():
    """Things of all kinds that are neither webs nor rows of turns, made anew at each call."""
    plain = [None, True, False, 0, 1, 3, -1, 10 ** 40, "", "0", "01", "3: 0-1", "none", "a" * 400]
    lists = [[], [0], [0, 1], [3, []], [3, ()], [[0, 1]], [None] * 1000, [True]]
    dicts = [{}, {0: 1}, {0: 0, 1: 1}, {3: ()}, {(): ()}, {"places": 3, "ties": ()}]
    tuples = [(None,), (True,), (False, True), ("0",), ("0", "1"), ([],), ({},), ((),), (0, None), (None, 0), (0, "1")]
    deep = [nested(inmost, kind, 30) for inmost in (0, None, "") for kind in (list, tuple, dict)]
    return plain + lists + dicts + tuples + deep


def is_number(thing):
    return type(thing) is int


def is_plain_web(thing):
    """Whether a told thing is a web, looked at without the program."""
    if type(thing) is not tuple or len(thing) != 2 or not is_number(thing[0]) or type(thing[1]) is not tuple:
        return False
    places, ties = thing
    if not all(type(tie) is tuple and len(tie) == 2 and all(map(is_number, tie)) for tie in ties):
        return False
    return 1 <= places <= 8 and list(ties) == [pair for pair in pairs(places) if pair in ties]
