"""Points 40 to 43, and point 1 for them."""

import copy
import itertools
import random
import unittest

from nearturns.errors import NoTie, TooMany
from nearturns.pivots import all_pivots, by_pivots, pivoted, pivoted_along, two_sides
from tests.helper import (
    drawn_webs, empty, full, is_number, is_plain_web, nested, odd_things, pairs, path, plain_near, plain_pieces,
    plain_pivoted, plain_pivots, ring, small_webs, star, tied,
)

ASKED = small_webs(4) + drawn_webs(51, 80, 5, 8) + [full(8), empty(8), star(8), path(8), ring(8)]
WEAVE = (6, ((0, 1), (0, 2), (0, 3), (0, 4), (0, 5), (1, 2), (1, 3), (2, 5), (3, 4), (4, 5)))
LARGE = [WEAVE, path(6), ring(6), star(6), full(6), empty(6)]
FIVE = [path(5), ring(5), star(5), full(5), (5, ((0, 3), (0, 4), (1, 4), (2, 3)))]


def things():
    """Things of all kinds that are no place of a web of two or three places, made anew at each call."""
    odd = [thing for thing in odd_things() if not (is_number(thing) and 0 <= thing < 3)]
    deep = [nested(inmost, kind, 29) for inmost in (1, (0, 1)) for kind in (list, tuple, dict)]
    return odd + deep + ["1", (0, 1), [1], -2, -3, 4, 8]


def lots_pivoted(web, one, other):
    """Point 43: three lots, each two places of unlike lots changed, then the ties of the two places swapped."""
    lots = {}
    for place in set(range(web[0])) - {one, other}:
        lots[place] = (tied(web, place, one), tied(web, place, other))

    def then_tied(low, high):
        if {low, high} == {one, other}:
            return True
        if low in lots and high in lots:
            unlike = any(lots[low]) and any(lots[high]) and lots[low] != lots[high]
            return tied(web, low, high) != unlike
        swap = {one: other, other: one}
        return tied(web, swap.get(low, low), swap.get(high, high))

    return (web[0], tuple(pair for pair in pairs(web[0]) if then_tied(*pair)))


def drawn_row(draw, web, many):
    """A row of so many pivots at ties that stand then, either way round, and where it leads."""
    row = []
    for pivot in range(many):
        tie = draw.choice(web[1])
        row.append(draw.choice((tie, tie[::-1])))
        web = plain_pivoted(web, *tie)
    return tuple(row), web


class Pivoted(unittest.TestCase):
    def refused(self, web, one, other):
        with self.assertRaises(NoTie, msg=(web, one, other)) as caught:
            pivoted(web, one, other)
        self.assertIs(type(caught.exception), NoTie)

    def test_by_hand(self):
        self.assertEqual(pivoted((2, ((0, 1),)), 0, 1), (2, ((0, 1),)))
        self.assertEqual(pivoted(path(3), 0, 1), (3, ((0, 1), (0, 2))))
        self.assertEqual(pivoted(full(3), 0, 2), full(3))
        self.assertEqual(pivoted(path(4), 1, 2), (4, ((0, 2), (0, 3), (1, 2), (1, 3))))
        self.assertEqual(pivoted(star(4), 3, 0), (4, ((0, 3), (1, 3), (2, 3))))

    def test_each_tie_either_way_round_against_three_turns(self):
        for web in ASKED:
            for low, high in web[1]:
                told = pivoted(web, low, high)
                self.assertTrue(is_plain_web(told), told)
                self.assertEqual(told, plain_pivoted(web, low, high), (web, low, high))
                self.assertEqual(told, plain_pivoted(web, high, low), (web, low, high))
                self.assertEqual(pivoted(web, high, low), told, (web, low, high))

    def test_by_three_lots(self):
        for web in ASKED:
            for low, high in web[1]:
                self.assertEqual(pivoted(web, low, high), lots_pivoted(web, low, high), (web, low, high))
                self.assertEqual(pivoted(web, high, low), lots_pivoted(web, low, high), (web, low, high))

    def test_twice_leads_back_and_the_two_stay_tied(self):
        for web in ASKED:
            for low, high in web[1]:
                told = pivoted(web, low, high)
                self.assertIn((low, high), told[1])
                self.assertEqual(pivoted(told, low, high), web)
                self.assertEqual(pivoted(told, high, low), web)

    def test_parted_places(self):
        for web in ASKED:
            for low, high in pairs(web[0]):
                if not tied(web, low, high):
                    self.refused(web, low, high)
                    self.refused(web, high, low)

    def test_one_place_twice(self):
        for web in ASKED:
            for place in range(web[0]):
                self.refused(web, place, place)

    def test_places_beyond_the_web_and_below_0(self):
        for places in range(1, 9):
            for web in (full(places), empty(places)):
                for wrong in (places, places + 1, 9, 100, 10 ** 30, -1, -2, -places, -places - 1):
                    for place in range(places):
                        self.refused(web, place, wrong)
                        self.refused(web, wrong, place)
                    self.refused(web, wrong, wrong)

    def test_truths(self):
        for web in (path(3), full(3), (2, ((0, 1),))):
            for one, other in ((0, True), (True, 0), (False, 1), (1, False), (False, True), (True, False)):
                self.refused(web, one, other)

    def test_things_of_all_kinds(self):
        for web in (full(2), path(3)):
            for thing in things():
                for place in range(web[0]):
                    self.refused(web, place, thing)
                    self.refused(web, thing, place)
                self.refused(web, thing, thing)
                self.refused(web, thing, None)
                self.refused(web, None, thing)

    def test_a_tie_in_the_stead_of_two_places(self):
        self.refused(path(3), (0, 1), (0, 1))
        self.refused(path(3), (0, 1), None)
        self.refused(path(3), 0, (1,))
        self.refused(path(3), "0", "1")
        self.refused(path(3), [0], [1])

    def test_nothing_that_is_handed_in_is_changed(self):
        asked = things()
        before = copy.deepcopy(asked)
        for thing in asked:
            for one, other in ((0, thing), (thing, 0), (thing, thing)):
                self.refused(full(2), one, other)
        self.assertEqual(repr(asked), repr(before))
        self.assertEqual(pivoted(full(2), 0, 1), full(2))


class PivotedAlong(unittest.TestCase):
    def refused(self, web, row):
        with self.assertRaises(NoTie, msg=(web, row)) as caught:
            pivoted_along(web, row)
        self.assertIs(type(caught.exception), NoTie)

    def test_by_hand(self):
        self.assertEqual(pivoted_along(path(4), ((1, 2), (0, 2))), plain_pivoted(plain_pivoted(path(4), 1, 2), 0, 2))
        # 0 and 2 are parted at first and tied behind the first pivot, 1 and 2 the other way about.
        self.assertEqual(pivoted_along(path(3), ((0, 1), (0, 2))), (3, ((0, 2), (1, 2))))
        self.assertEqual(pivoted_along(path(3), ((0, 1), (2, 0), (1, 2))), path(3))
        self.refused(path(3), ((0, 2), (0, 1)))
        self.refused(path(3), ((0, 1), (1, 2)))

    def test_no_pivot(self):
        for web in ASKED:
            self.assertEqual(pivoted_along(web, ()), web)

    def test_one_pivot(self):
        for web in ASKED:
            for low, high in web[1]:
                self.assertEqual(pivoted_along(web, ((low, high),)), plain_pivoted(web, low, high))
                self.assertEqual(pivoted_along(web, ((high, low),)), plain_pivoted(web, low, high))

    def test_two_to_twenty_pivots_and_some_more(self):
        draw = random.Random(52)
        for web in ASKED:
            for many in (2, 3, 7, 20, 23) if web[1] else ():
                row, end = drawn_row(draw, web, many)
                told = pivoted_along(web, row)
                self.assertTrue(is_plain_web(told), told)
                self.assertEqual(told, end, (web, row))
                self.assertEqual(pivoted_along(told, row[::-1]), web)

    def test_two_that_are_not_tied_then_anywhere_in_a_row(self):
        draw = random.Random(53)
        for web in [path(3), full(3)] + drawn_webs(54, 40, 3, 8):
            for many in (0, 1, 10, 19) if web[1] else ():
                ahead, end = drawn_row(draw, web, many)
                parted = [pair for pair in pairs(web[0]) if not tied(end, *pair)]
                wrong = [pair[::-1] for pair in parted] + parted + [(0, 0), (0, web[0]), (-1, 0), (False, True)]
                for pair in wrong:
                    after, _ = drawn_row(draw, end, draw.choice((0, 1, 19 - many)))
                    self.refused(web, ahead + (pair,) + after)

    def test_ties_that_stood_at_first_only(self):
        for web in drawn_webs(55, 60, 3, 8):
            for first, second in itertools.product(web[1], repeat=2):
                between = plain_pivoted(web, *first)
                if tied(between, *second):
                    self.assertEqual(pivoted_along(web, (first, second)), plain_pivoted(between, *second))
                else:
                    self.refused(web, (first, second))

    def test_things_of_all_kinds_first_amid_and_last(self):
        asked = things()
        before = copy.deepcopy(asked)
        for thing in asked:
            for pair in ((0, thing), (thing, 1), (thing, thing)):
                self.refused(full(2), (pair,))
                self.refused(full(2), (pair, (0, 1), (1, 0)))
                self.refused(full(2), ((0, 1), pair, (1, 0)))
                self.refused(full(2), ((0, 1), (1, 0), pair))
        self.assertEqual(repr(asked), repr(before))

    def test_asked_again_the_same_is_told(self):
        row, end = drawn_row(random.Random(62), ring(7), 20)
        self.assertEqual([pivoted_along(ring(7), row), pivoted_along(ring(7), row)], [end, end])


class AllPivots(unittest.TestCase):
    def check(self, web):
        told = all_pivots(web)
        self.assertIs(type(told), list)
        self.assertTrue(all(map(is_plain_web, told)), web)
        self.assertEqual(told, sorted(plain_pivots(web)), web)
        self.assertIn(web, told)

    def test_by_hand(self):
        self.assertEqual(all_pivots(empty(1)), [empty(1)])
        self.assertEqual(all_pivots(full(2)), [full(2)])
        self.assertEqual(all_pivots(full(3)), [full(3)])
        self.assertEqual(
            all_pivots(path(3)),
            [(3, ((0, 1), (0, 2))), (3, ((0, 1), (1, 2))), (3, ((0, 2), (1, 2)))],
        )
        self.assertEqual(all_pivots(empty(6)), [empty(6)])
        self.assertEqual(len(all_pivots(star(6))), 6)
        self.assertEqual(len(all_pivots(WEAVE)), 22)

    def test_every_small_web(self):
        for web in small_webs(4):
            self.check(web)

    def test_webs_of_five_and_six_places(self):
        for web in FIVE + LARGE + drawn_webs(56, 16, 5, 6):
            self.check(web)

    def test_the_same_list_of_all_of_them(self):
        for web in small_webs(3) + [path(5), (5, ((0, 1), (0, 2), (3, 4)))]:
            told = all_pivots(web)
            for other in told:
                self.assertEqual(all_pivots(other), told)

    def test_the_list_is_the_askers_own(self):
        told, again = all_pivots(path(3)), all_pivots(path(3))
        self.assertIsNot(told, again)
        before = list(again)
        told.reverse()
        told.append(None)
        self.assertEqual(again, before)
        self.assertEqual(all_pivots(path(3)), before)
        self.assertEqual(all_pivots(star(3)), before)

    def test_more_than_six_places(self):
        for places in (7, 8, 9):
            for make in (empty, path, star, full):
                with self.assertRaises(TooMany):
                    all_pivots(make(places))


class ByPivots(unittest.TestCase):
    def test_by_hand(self):
        self.assertIs(by_pivots(path(3), star(3)), True)
        # These are alike by turns, but no pivot leads there.
        self.assertIs(by_pivots(path(3), full(3)), False)
        self.assertIs(by_pivots(star(6), full(6)), False)
        self.assertIs(by_pivots(empty(1), empty(1)), True)
        self.assertIs(by_pivots((3, ((0, 1),)), (3, ((0, 2),))), False)

    def test_every_two_small_webs(self):
        webs = small_webs(4)
        for one in webs:
            led = plain_pivots(one)
            for other in webs:
                self.assertIs(by_pivots(one, other), other in led, (one, other))

    def test_webs_of_five_and_six_places(self):
        draw = random.Random(57)
        webs = FIVE + LARGE + drawn_webs(58, 8, 5, 6)
        for one in webs:
            led = plain_pivots(one)
            for other in webs + draw.sample(sorted(led), min(len(led), 3)):
                self.assertIs(by_pivots(one, other), other in led, (one, other))

    def test_unlike_numbers_of_places(self):
        for one, other in itertools.permutations(range(1, 7), 2):
            for make in (empty, path, full):
                self.assertIs(by_pivots(make(one), make(other)), False)

    def test_more_than_six_places(self):
        for many, few in itertools.product((7, 8, 9), range(1, 7)):
            for make in (empty, path):
                for one, other in itertools.permutations((make(many), make(few))):
                    with self.assertRaises(TooMany):
                        by_pivots(one, other)
        for one, other in itertools.product((7, 8), repeat=2):
            with self.assertRaises(TooMany):
                by_pivots(path(one), path(other))


def plain_sided(web):
    """Point 42 by trying each side: none are tied within it or within the rest, the least of each piece is in it."""
    least = [piece[0] for piece in plain_pieces(web)]
    for many in range(web[0] + 1):
        for side in itertools.combinations(range(web[0]), many):
            parted = all((low in side) != (high in side) for low, high in web[1])
            if parted and set(least) <= set(side):
                return side
    return None


class TwoSides(unittest.TestCase):
    def check(self, web):
        told = two_sides(web)
        self.assertEqual(told, plain_sided(web), web)
        if told is not None:
            self.assertIs(type(told), tuple)
            self.assertTrue(all(map(is_number, told)), web)
            self.assertEqual(list(told), sorted(set(told)))

    def test_by_hand(self):
        self.assertEqual(two_sides(empty(1)), (0,))
        self.assertEqual(two_sides(full(2)), (0,))
        self.assertEqual(two_sides(path(3)), (0, 2))
        self.assertEqual(two_sides(star(4)), (0,))
        self.assertEqual(two_sides(ring(4)), (0, 2))
        self.assertEqual(two_sides((3, ((0, 2), (1, 2)))), (0, 1))
        self.assertEqual(two_sides((4, ((0, 3), (1, 2)))), (0, 1))
        self.assertIsNone(two_sides(full(3)))
        self.assertIsNone(two_sides(ring(5)))

    def test_places_without_ties(self):
        self.assertEqual(two_sides(empty(8)), (0, 1, 2, 3, 4, 5, 6, 7))
        self.assertEqual(two_sides((5, ((1, 3),))), (0, 1, 2, 4))

    def test_several_pieces(self):
        self.assertEqual(two_sides((7, ((0, 4), (1, 2), (2, 3), (5, 6)))), (0, 1, 3, 5))
        # Only the last piece, a ring of three, can't be parted.
        self.assertIsNone(two_sides((8, ((0, 4), (1, 2), (5, 6), (5, 7), (6, 7)))))
        self.assertIsNone(two_sides((8, ((0, 1), (0, 2), (1, 2), (3, 4)))))

    def test_rings_of_even_and_odd_places(self):
        for places in range(3, 9):
            even = places % 2 == 0
            self.assertEqual(two_sides(ring(places)), tuple(range(0, places, 2)) if even else None)

    def test_against_each_side(self):
        for web in ASKED + drawn_two_sided(59, 60):
            self.check(web)

    def test_pivots_of_two_sided_webs_are_two_sided(self):
        for web in small_webs(4) + drawn_two_sided(60, 40):
            if two_sides(web) is not None:
                for low, high in web[1]:
                    self.assertIsNotNone(two_sides(pivoted(web, low, high)), (web, low, high))

    def test_the_side_has_no_ties_within(self):
        for web in drawn_two_sided(61, 60):
            told = two_sides(web)
            for place in told:
                self.assertEqual(set(plain_near(web, place)) & set(told), set())

    def test_asked_again_the_same_is_told(self):
        for web in ASKED:
            self.assertEqual(two_sides(web), two_sides(web))


def drawn_two_sided(seed, many):
    """Drawn webs without the ties within a drawn side and within the rest."""
    draw = random.Random(seed)
    webs = []
    for places, ties in drawn_webs(seed, many, 2, 8):
        side = [draw.random() < 0.5 for place in range(places)]
        webs.append((places, tuple((low, high) for low, high in ties if side[low] != side[high])))
    return webs


if __name__ == "__main__":
    unittest.main()
