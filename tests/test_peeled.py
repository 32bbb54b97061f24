"""Points 80 to 83, and point 1 for them."""

import copy
import itertools
import random
import unittest

from nearturns.peeled import can_go, close_places, peeled, peels
from tests.helper import (
    all_webs, drawn_webs, empty, full, is_number, nested, odd_things, pairs, path, plain_alike, plain_along,
    plain_goes, plain_loose, plain_pieces, plain_rank, ring, small_webs, star,
)

ASKED = small_webs(4) + drawn_webs(131, 120, 5, 8) + [full(8), empty(8), star(8), path(8), ring(8)]
# A ring of five, and with a place hung on it: no place of the ring can ever go.
HUNG = (6, ((0, 1), (0, 4), (0, 5), (1, 2), (2, 3), (3, 4)))


def plain_close(web):
    everyone = range(web[0])
    return [
        (low, high) for low, high in pairs(web[0])
        if plain_goes(web, everyone, low, high) or plain_goes(web, everyone, high, low)
    ]


def plain_peeled(web):
    gone, left = [], list(range(web[0]))
    while plain_loose(web, left):
        gone.append(min(plain_loose(web, left)))
        left.remove(gone[-1])
    return (tuple(gone), tuple(left))


def plain_peels(web, row):
    left = list(range(web[0]))
    for place in row:
        if place not in plain_loose(web, left):
            return False
        left.remove(place)
    return len(left) == 1


def last_lots(web):
    """Every lot of places that is left when none can be peeled off, whichever are peeled off ahead."""
    ends = set()
    seen = {tuple(range(web[0]))}
    waiting = list(seen)
    while waiting:
        left = waiting.pop()
        loose = plain_loose(web, left)
        if not loose:
            ends.add(left)
        for place in loose:
            fewer = tuple(other for other in left if other != place)
            if fewer not in seen:
                seen.add(fewer)
                waiting.append(fewer)
    return ends


def drawn_peeling(draw, web):
    """Places peeled off in a drawn order, as long as any can be."""
    row, left = [], list(range(web[0]))
    while loose := plain_loose(web, left):
        row.append(draw.choice(loose))
        left.remove(row[-1])
    return tuple(row)


def is_tree(web):
    return len(plain_pieces(web)) == 1 and len(web[1]) == web[0] - 1


class ClosePlaces(unittest.TestCase):
    def test_by_hand(self):
        self.assertEqual(close_places(empty(1)), [])
        self.assertEqual(close_places(empty(2)), [(0, 1)])
        self.assertEqual(close_places(full(2)), [(0, 1)])
        self.assertEqual(close_places(path(4)), [(0, 1), (2, 3)])
        self.assertEqual(close_places(path(5)), [(0, 1), (3, 4)])
        self.assertEqual(close_places(ring(5)), [])
        self.assertEqual(close_places(ring(4)), [(0, 2), (1, 3)])
        self.assertEqual(close_places(HUNG), [(0, 5)])

    def test_a_place_without_near_places_is_close_to_all(self):
        self.assertEqual(close_places((6, ring(5)[1])), [(place, 5) for place in range(5)])
        self.assertEqual(close_places(empty(8)), pairs(8))

    def test_places_with_the_same_near_places_with_and_without_a_tie_between_them(self):
        # 5 has the near places of 0 in a ring of five: parted from 0, then tied to it.
        parted = (6, tuple(sorted(ring(5)[1] + ((1, 5), (4, 5)))))
        tied = (6, tuple(sorted(parted[1] + ((0, 5),))))
        self.assertEqual(close_places(parted), [(0, 5)])
        self.assertEqual(close_places(tied), [(0, 5)])
        self.assertEqual(close_places(full(8)), pairs(8))

    def test_each_pair(self):
        for web in ASKED + all_webs(5):
            told = close_places(web)
            self.assertIs(type(told), list)
            self.assertTrue(all(type(pair) is tuple and all(map(is_number, pair)) for pair in told))
            self.assertEqual(told, plain_close(web), web)

    def test_the_list_is_the_askers_own(self):
        for web in (path(4), empty(1), full(8)):
            told, again = close_places(web), close_places(web)
            self.assertIsNot(told, again)
            before = list(again)
            told.append(None)
            told.reverse()
            self.assertEqual(again, before)
            self.assertEqual(close_places(web), before)


class CanGo(unittest.TestCase):
    def test_by_hand(self):
        self.assertIs(can_go(empty(1), 0), False)
        self.assertEqual([can_go(path(4), place) for place in range(4)], [True, False, False, True])
        self.assertEqual([can_go(star(4), place) for place in range(4)], [False, True, True, True])
        self.assertEqual([can_go(ring(5), place) for place in range(5)], [False] * 5)
        self.assertEqual([can_go(HUNG, place) for place in range(6)], [False] * 5 + [True])
        self.assertEqual([can_go((6, ring(5)[1]), place) for place in range(6)], [False] * 5 + [True])

    def test_webs_of_two_places(self):
        for web in all_webs(2):
            self.assertEqual([can_go(web, place) for place in range(2)], [True, True])

    def test_without_near_places_and_with_the_same_ones(self):
        for web in (empty(8), full(8), ring(4)):
            for place in range(web[0]):
                self.assertIs(can_go(web, place), True)

    def test_close_is_not_enough(self):
        # 0 is close to 5 for the sake of 5, yet has near places that 5 lacks.
        self.assertIn((0, 5), close_places(HUNG))
        self.assertIs(can_go(HUNG, 0), False)

    def test_each_place(self):
        for web in ASKED + all_webs(5):
            loose = plain_loose(web, range(web[0]))
            for place in range(web[0]):
                self.assertIs(can_go(web, place), place in loose, (web, place))


class Peeled(unittest.TestCase):
    def test_by_hand(self):
        self.assertEqual(peeled(empty(1)), ((), (0,)))
        self.assertEqual(peeled(full(2)), ((0,), (1,)))
        self.assertEqual(peeled(path(4)), ((0, 1, 2), (3,)))
        self.assertEqual(peeled(star(4)), ((1, 2, 0), (3,)))
        self.assertEqual(peeled(empty(8)), ((0, 1, 2, 3, 4, 5, 6), (7,)))
        self.assertEqual(peeled(full(8)), ((0, 1, 2, 3, 4, 5, 6), (7,)))
        self.assertEqual(peeled(ring(5)), ((), (0, 1, 2, 3, 4)))
        self.assertEqual(peeled(HUNG), ((5,), (0, 1, 2, 3, 4)))

    def test_numbers_stay_those_of_the_web(self):
        web = (7, ((0, 1), (1, 2), (2, 3), (2, 6), (3, 4), (4, 5), (5, 6)))
        self.assertEqual(peeled(web), ((0, 1), (2, 3, 4, 5, 6)))

    def test_the_least_place_goes_first(self):
        for web in ASKED + all_webs(5):
            told = peeled(web)
            self.assertIs(type(told), tuple)
            self.assertEqual([type(part) for part in told], [tuple, tuple])
            self.assertTrue(all(map(is_number, told[0] + told[1])))
            self.assertEqual(told, plain_peeled(web), web)

    def test_webs_that_are_not_peeled_down(self):
        for web in (ring(5), ring(6), ring(7), ring(8), HUNG):
            gone, left = peeled(web)
            self.assertGreater(len(left), 1)
            self.assertEqual(sorted(gone + left), list(range(web[0])))

    def test_asked_again_the_same_is_told(self):
        first = [peeled(web) for web in ASKED]
        self.assertEqual([peeled(web) for web in ASKED], first)


class Peels(unittest.TestCase):
    def yes(self, web, thing):
        self.assertIs(peels(web, thing), True, (web, thing))

    def no(self, web, thing):
        self.assertIs(peels(web, thing), False, (web, thing))

    def test_by_hand(self):
        self.yes(path(3), (0, 1))
        self.yes(path(3), (2, 1))
        self.yes(path(3), (0, 2))
        self.no(path(3), (1, 0))
        self.yes(path(4), (0, 1, 2))
        self.yes(path(4), (3, 0, 1))
        self.no(path(4), (1, 0, 2))
        self.no(path(4), (0, 2, 1))

    def test_webs_of_one_place(self):
        self.yes(empty(1), ())
        for thing in ((0,), (1,), [], "", None, False, {}, 0, ((),)):
            self.no(empty(1), thing)

    def test_every_row_of_small_webs(self):
        for web in small_webs(4) + [path(5), ring(5), star(5), full(5), empty(5)] + drawn_webs(132, 10, 5, 5):
            for row in itertools.permutations(range(web[0]), web[0] - 1):
                self.assertIs(peels(web, row), plain_peels(web, row), (web, row))

    def test_drawn_rows(self):
        draw = random.Random(133)
        for web in drawn_webs(134, 120, 5, 8) + [path(8), star(8), full(8), empty(8)]:
            row = drawn_peeling(draw, web)
            self.assertIs(peels(web, row), len(row) == web[0] - 1, (web, row))
            other = tuple(draw.sample(range(web[0]), web[0] - 1))
            self.assertIs(peels(web, other), plain_peels(web, other), (web, other))

    def test_what_peeled_tells(self):
        for web in ASKED:
            gone, left = peeled(web)
            self.assertIs(peels(web, gone), len(left) == 1, web)

    def test_too_short_and_too_long(self):
        for web in (path(3), path(5), full(4), empty(8)):
            gone, left = peeled(web)
            self.yes(web, gone)
            self.no(web, gone + left)
            self.no(web, gone + gone)
            for many in range(len(gone)):
                self.no(web, gone[:many])

    def test_a_place_twice(self):
        for web in (empty(3), full(3)):
            for place in range(3):
                self.no(web, (place, place))
        self.no(empty(4), (0, 1, 0))
        self.no(full(4), (0, 1, 1))

    def test_places_beyond(self):
        for wrong in (3, 4, 8, -1, -2, -3, 10 ** 30):
            for web in (empty(3), full(3)):
                self.no(web, (0, wrong))
                self.no(web, (wrong, 0))
                self.no(web, (wrong, wrong))

    def test_lists_and_truths(self):
        self.no(path(3), [0, 1])
        self.no(path(3), ([0], [1]))
        self.no(path(3), ((0, 1),))
        self.no(path(3), ((0, 1), ()))
        self.no(path(3), (0, True))
        self.no(path(3), (False, 1))
        self.no(path(3), (False, True))
        self.no(full(2), (True,))
        self.no(full(2), (False,))

    def test_things_of_all_kinds(self):
        for thing in odd_things():
            for web in (empty(1), full(2), path(3), full(8)):
                self.no(web, thing)
                self.no(web, (thing,) * 7)
                if not is_number(thing):
                    self.no(web, (0, thing))
                    self.no(web, (thing, 0))
                    self.no(web, (thing,))
                    self.no(web, (0, 1, 2, 3, 4, 5, thing))

    def test_texts_and_dicts(self):
        for thing in ("01", "0 1", {0: 0, 1: 1}, {0: 1}, "ab"):
            self.no(path(3), thing)
        self.no(path(3), ("0", "1"))

    def test_deep_and_many_things(self):
        for kind in (list, tuple, dict):
            self.no(path(3), nested((0, 1), kind, 28))
            self.no(path(3), (0, nested(1, kind, 28)))
            self.no(full(2), nested(0, kind, 30))
            self.no(full(2), (nested(0, kind, 29),))
        self.no(full(8), tuple(range(1000)))

    def test_nothing_that_is_handed_in_is_changed(self):
        things = odd_things() + [[0, 1], ([0], 1), {0: [1]}]
        before = copy.deepcopy(things)
        told = [peels(path(3), thing) for thing in things]
        self.assertEqual(repr(things), repr(before))
        self.assertEqual([peels(path(3), thing) for thing in things], told)


class Laws(unittest.TestCase):
    def test_close_places_are_a_side_of_rank_1_at_most(self):
        for web in ASKED:
            self.assertEqual(close_places(web), [pair for pair in pairs(web[0]) if plain_rank(web, pair) <= 1], web)

    def test_close_places_stay_close_by_turns(self):
        draw = random.Random(135)
        for web in ASKED:
            for many in (1, 2, 9):
                row = [draw.randrange(web[0]) for turn in range(many)]
                self.assertEqual(close_places(plain_along(web, row)), close_places(web), (web, row))

    def test_whichever_are_peeled_off_one_is_left_just_where_one_is_left(self):
        for web in small_webs(5) + drawn_webs(136, 60, 6, 8) + [HUNG, ring(6), path(8)]:
            down = len(peeled(web)[1]) == 1
            self.assertEqual({len(left) == 1 for left in last_lots(web)}, {down}, web)

    def test_so_it_is_of_alike_webs(self):
        draw = random.Random(137)
        for web in small_webs(4) + drawn_webs(138, 20, 5, 6) + [HUNG, ring(5), ring(6), path(6)]:
            alike = sorted(plain_alike(web))
            for other in draw.sample(alike, min(len(alike), 12)):
                self.assertEqual(len(peeled(other)[1]) == 1, len(peeled(web)[1]) == 1, (web, other))

    def test_trees_are_peeled_down(self):
        draw = random.Random(139)
        trees = [web for web in small_webs(5) if is_tree(web)]
        for turn in range(60):
            places = 6 + turn % 3
            ties = sorted((draw.randrange(place), place) for place in range(1, places))
            trees.append((places, tuple(ties)))
        for web in trees:
            gone, left = peeled(web)
            self.assertEqual((len(gone), len(left)), (web[0] - 1, 1), web)
            self.assertIs(peels(web, gone), True)


if __name__ == "__main__":
    unittest.main()
