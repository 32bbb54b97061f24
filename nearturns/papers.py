"""Papers of four bits a place, which show that two webs are alike (points 50 to 52)."""

from nearturns.webs import is_whole, near, turned

STAYS = (1, 0, 0, 1)
TURNS = (1, 0, 1, 1)
NEAR_A_TURN = (1, 1, 0, 1)


def is_bit(thing):
    """Whether a thing is the whole number 0 or 1."""
    return is_whole(thing) and 0 <= thing <= 1


def is_four(thing):
    """Whether a thing is a tuple (a, b, c, d) of bits, of which just one of a times d and b times c is 1."""
    if not isinstance(thing, tuple) or len(thing) != 4:
        return False
    if not all([is_bit(bit) for bit in thing]):
        return False
    a, b, c, d = thing
    return a * d != b * c


def sum_at(one, other, paper, j, k):
    """What a paper for the two webs comes to for the places j and k, in this order."""
    total = sum([paper[i][2] for i in near(other, j) if i in near(one, k)])
    if j in near(other, k):
        total += paper[k][3]
    if j in near(one, k):
        total += paper[j][0]
    if j == k:
        total += paper[j][1]
    return total


def is_paper(one, other, thing):
    """Whether a thing, whatever it is, is a paper for the one web and the other."""
    places = one[0]
    if other[0] != places or not isinstance(thing, tuple) or len(thing) != places:
        return False
    if not all([is_four(four) for four in thing]):
        return False
    return all([sum_at(one, other, thing, j, k) % 2 == 0 for j in range(places) for k in range(places)])


def turn_four(web, turn, place):
    """What the paper of a turn at the first place has for the second one."""
    if place == turn:
        return TURNS
    if place in near(web, turn):
        return NEAR_A_TURN
    return STAYS


def turn_paper(web, place):
    """The paper of a turn of the web at a place."""
    return tuple([turn_four(web, place, at) for at in range(web[0])])


def four_behind(four, later):
    """What comes of four bits and four more behind them."""
    a, b, c, d = four
    e, f, g, h = later
    return ((e * a + f * c) % 2, (e * b + f * d) % 2, (g * a + h * c) % 2, (g * b + h * d) % 2)


def behind(paper, later):
    """What comes of a paper and a later one behind it, place by place."""
    return tuple([four_behind(four, after) for four, after in zip(paper, later)])


def row_paper(web, row):
    """The paper of a row of turns of the web."""
    paper = (STAYS,) * web[0]
    for place in row:
        paper = behind(paper, turn_paper(web, place))
        web = turned(web, place)
    return paper


def about(paper):
    """The paper turned about."""
    return tuple([(d, b, c, a) for a, b, c, d in paper])
