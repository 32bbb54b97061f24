"""Points 20 to 23, and point 1 for them."""

import random
import unittest

from nearturns.cuts import all_ranks, cut_rank, first_apart, rank_counts
from nearturns.errors import NoPlaces
from tests.helper import (
    drawn_webs, empty, full, is_number, path, plain_along, plain_pieces, plain_rank, plain_sides, plain_turned, ring,
    small_webs, star,
)

ASKED = small_webs(4) + drawn_webs(21, 40, 5, 7) + [star(6), path(6), ring(6), full(6), empty(6)]

# Over evens and odds the rows of 0, 1 and 2 come to nothing; over other numbers they do not.
THREE_PAIRS = (6, ((0, 3), (0, 4), (1, 4), (1, 5), (2, 3), (2, 5)))


def some_sides(draw, places, many):
    return [tuple(place for place in range(places) if draw.random() < 0.5) for side in range(many)]


class CutRank(unittest.TestCase):
    def check(self, web, side):
        told = cut_rank(web, side)
        self.assertTrue(is_number(told))
        self.assertEqual(told, plain_rank(web, side), (web, side))

    def test_by_hand(self):
        self.assertEqual(cut_rank(path(3), (1,)), 1)
        self.assertEqual(cut_rank(path(4), (0, 2)), 2)
        self.assertEqual(cut_rank(path(4), (0, 1)), 1)
        self.assertEqual(cut_rank(full(8), (0, 1, 2, 3)), 1)
        self.assertEqual(cut_rank((8, ((0, 4), (1, 5), (2, 6), (3, 7))), (0, 1, 2, 3)), 4)
        self.assertEqual(cut_rank((8, ((0, 4), (1, 5), (2, 6), (3, 7))), (0, 4)), 0)

    def test_sums_are_of_evens_and_odds(self):
        self.assertEqual(cut_rank(THREE_PAIRS, (0, 1, 2)), 2)
        self.assertEqual(cut_rank(THREE_PAIRS, (3, 4, 5)), 2)
        self.assertEqual(cut_rank((6, THREE_PAIRS[1][1:]), (0, 1, 2)), 3)

    def test_of_no_places_and_of_all(self):
        for web in ASKED + [full(8), path(8)]:
            for side in ((), tuple(range(web[0]))):
                told = cut_rank(web, side)
                self.assertTrue(is_number(told))
                self.assertEqual(told, 0, (web, side))

    def test_of_single_places(self):
        for web in ASKED + drawn_webs(22, 30, 8, 8):
            for place in range(web[0]):
                lone = not any(place in tie for tie in web[1])
                self.assertEqual(cut_rank(web, (place,)), 0 if lone else 1, (web, place))

    def test_every_side_of_small_webs(self):
        for web in small_webs(4) + drawn_webs(23, 20, 5, 6):
            for side in plain_sides(web[0]):
                self.check(web, side)

    def test_drawn_sides(self):
        draw = random.Random(24)
        for web in drawn_webs(25, 60, 6, 8):
            for side in some_sides(draw, web[0], 6):
                self.check(web, side)


class AllRanks(unittest.TestCase):
    def test_by_hand(self):
        self.assertEqual(all_ranks(empty(1)), [((), 0), ((0,), 0)])
        self.assertEqual(all_ranks((2, ((0, 1),))), [((), 0), ((0,), 1), ((1,), 1), ((0, 1), 0)])
        self.assertEqual(
            all_ranks((3, ((0, 1),))),
            [((), 0), ((0,), 1), ((1,), 1), ((2,), 0), ((0, 1), 0), ((0, 2), 1), ((1, 2), 1), ((0, 1, 2), 0)],
        )

    def test_order_and_ranks(self):
        for web in ASKED:
            told = all_ranks(web)
            self.assertIs(type(told), list)
            self.assertTrue(all(type(pair) is tuple and type(pair[0]) is tuple for pair in told))
            self.assertTrue(all(is_number(rank) for side, rank in told))
            self.assertEqual(told, [(side, plain_rank(web, side)) for side in plain_sides(web[0])], web)

    def test_order_of_the_sides_of_eight_places(self):
        told = all_ranks(path(8))
        self.assertEqual([side for side, rank in told], plain_sides(8))
        self.assertEqual(len(told), 256)

    def test_the_list_is_the_askers_own(self):
        told = all_ranks(path(3))
        again = all_ranks(path(3))
        self.assertIsNot(told, again)
        self.assertEqual(told, again)
        before = list(again)
        told.clear()
        self.assertEqual(again, before)
        self.assertEqual(all_ranks(path(3)), before)


class RankCounts(unittest.TestCase):
    def test_by_hand(self):
        self.assertEqual(rank_counts(empty(1)), (2,))
        self.assertEqual(rank_counts(empty(8)), (256,))
        self.assertEqual(rank_counts((2, ((0, 1),))), (2, 2))
        self.assertEqual(rank_counts(full(8)), (2, 254))
        self.assertEqual(rank_counts(path(4)), (2, 10, 4))
        self.assertEqual(rank_counts((8, ((0, 4), (1, 5), (2, 6), (3, 7)))), (16, 64, 96, 64, 16))

    def test_counts(self):
        for web in ASKED:
            told = rank_counts(web)
            self.assertIs(type(told), tuple)
            self.assertTrue(all(map(is_number, told)))
            ranks = [plain_rank(web, side) for side in plain_sides(web[0])]
            self.assertEqual(told, tuple(ranks.count(rank) for rank in range(max(ranks) + 1)), web)


class FirstApart(unittest.TestCase):
    def test_by_hand(self):
        self.assertEqual(first_apart(path(3), empty(3)), (0,))
        self.assertEqual(first_apart((4, ((0, 1), (2, 3))), (4, ((0, 2), (1, 3)))), (0, 1))
        self.assertEqual(first_apart(path(4), star(4)), (0, 2))
        self.assertEqual(first_apart((3, ((0, 1),)), (3, ((0, 2),))), (1,))
        self.assertIsNone(first_apart(path(3), full(3)))
        self.assertIsNone(first_apart(empty(1), empty(1)))
        self.assertIsNone(first_apart(star(8), full(8)))

    def test_apart_at_three_places_first(self):
        one, other = THREE_PAIRS, (6, THREE_PAIRS[1][1:])
        plain = [side for side in plain_sides(6) if plain_rank(one, side) != plain_rank(other, side)]
        self.assertEqual(first_apart(one, other), plain[0])

    def check(self, one, other):
        told = first_apart(one, other)
        plain = [side for side in plain_sides(one[0]) if plain_rank(one, side) != plain_rank(other, side)]
        self.assertEqual(told, plain[0] if plain else None, (one, other))
        if told is not None:
            self.assertIs(type(told), tuple)

    def test_every_two_small_webs(self):
        for one in small_webs(3):
            for other in small_webs(3):
                if one[0] == other[0]:
                    self.check(one, other)

    def test_drawn_webs(self):
        for places in (4, 5, 6):
            webs = drawn_webs(26 + places, 16, places, places)
            for one, other in zip(webs, webs[1:]):
                self.check(one, other)

    def test_webs_a_tie_apart(self):
        for web in drawn_webs(33, 24, 4, 6):
            for tie in web[1][:4]:
                self.check(web, (web[0], tuple(kept for kept in web[1] if kept != tie)))

    def test_unlike_numbers_of_places(self):
        for one in range(1, 9):
            for other in range(1, 9):
                if one != other:
                    for make in (empty, full, path):
                        with self.assertRaises(NoPlaces):
                            first_apart(make(one), make(other))
        with self.assertRaises(NoPlaces):
            first_apart((3, ((0, 1),)), (4, ((0, 1),)))


class Laws(unittest.TestCase):
    def test_a_side_and_the_rest_have_one_rank(self):
        for web in ASKED:
            ranks = dict(all_ranks(web))
            for side in plain_sides(web[0]):
                rest = tuple(place for place in range(web[0]) if place not in side)
                self.assertEqual(ranks[side], ranks[rest])
                self.assertEqual(cut_rank(web, side), cut_rank(web, rest))

    def test_rank_0_is_of_whole_pieces(self):
        for web in ASKED + [(6, ((0, 4), (1, 5))), (7, ((0, 6), (1, 2), (2, 3)))]:
            lots = plain_pieces(web)
            for side in plain_sides(web[0]):
                whole = all(set(lot) <= set(side) or not set(lot) & set(side) for lot in lots)
                self.assertEqual(cut_rank(web, side) == 0, whole, (web, side))

    def test_a_place_more_changes_the_rank_by_one_at_most(self):
        draw = random.Random(27)
        for web in drawn_webs(28, 40, 5, 8):
            for side in some_sides(draw, web[0], 5):
                for place in range(web[0]):
                    more = tuple(sorted(set(side) | {place}))
                    self.assertLessEqual(abs(cut_rank(web, more) - cut_rank(web, side)), 1)

    def test_turns_change_no_rank(self):
        draw = random.Random(29)
        for web in small_webs(4) + drawn_webs(30, 16, 5, 8):
            for place in range(web[0]):
                self.assertEqual(all_ranks(plain_turned(web, place)), all_ranks(web))
            row = tuple(draw.randrange(web[0]) for turn in range(12))
            self.assertIsNone(first_apart(web, plain_along(web, row)))
            self.assertEqual(rank_counts(web), rank_counts(plain_along(web, row)))

    def test_asked_again_the_same_is_told(self):
        webs = drawn_webs(31, 12, 6, 6)
        first = [(all_ranks(web), rank_counts(web), first_apart(webs[0], web)) for web in webs]
        self.assertEqual([(all_ranks(web), rank_counts(web), first_apart(webs[0], web)) for web in webs], first)


if __name__ == "__main__":
    unittest.main()
