"""Points 10, 11 and 12, and point 1 for them."""

import copy
import itertools
import random
import unittest

from nearturns.webs import is_web, named, near, pieces, turned, turned_along
from tests.helper import (
    all_webs, drawn_webs, empty, full, is_number, is_plain_web, nested, odd_things, path, plain_along,
    plain_near, plain_pieces, plain_turned, ring, small_webs, star, tied,
)

ASKED = small_webs(4) + drawn_webs(11, 120, 5, 8) + [full(8), empty(8), star(8), path(8), ring(8)]


class IsWeb(unittest.TestCase):
    def yes(self, thing):
        self.assertIs(is_web(thing), True, thing)

    def no(self, thing):
        self.assertIs(is_web(thing), False, thing)

    def test_webs(self):
        for web in ASKED:
            self.yes(web)

    def test_one_to_eight_places_with_and_without_ties(self):
        for places in range(1, 9):
            self.yes(empty(places))
            self.yes(full(places))
            self.yes(path(places))
            self.yes(star(places))

    def test_other_numbers_of_places(self):
        for places in (0, 9, 10, 100, 10 ** 30, -1, -3, -8):
            self.no((places, ()))
            self.no((places, ((0, 1),)))

    def test_places_that_are_no_whole_number(self):
        for places in (True, False, None, "3", "", (3,), [3], {3: 3}, ()):
            self.no((places, ()))
            self.no((places, ((0, 1),)))

    def test_ties_out_of_order(self):
        for ties in itertools.permutations(full(3)[1]):
            self.assertIs(is_web((3, ties)), list(ties) == sorted(ties), ties)
        self.no((4, ((0, 2), (0, 1))))
        self.no((4, ((1, 2), (0, 3))))
        self.no((4, ((0, 1), (2, 3), (1, 2))))

    def test_ties_twice(self):
        self.no((3, ((0, 1), (0, 1))))
        self.no((4, ((0, 1), (1, 2), (1, 2))))
        self.no((4, ((0, 1), (1, 2), (0, 1))))

    def test_ends_turned_about_or_alike(self):
        for place in range(4):
            self.no((4, ((place, place),)))
        for low, high in full(4)[1]:
            self.no((4, ((high, low),)))
        self.no((3, ((0, 1), (1, 0))))
        self.no((3, ((0, 1), (2, 1))))
        self.no((3, ((0, 1), (1, 1))))
        self.no((1, ((0, 0),)))

    def test_ends_that_are_no_places(self):
        for places in range(1, 9):
            self.no((places, ((0, places),)))
            self.no((places, ((places - 1, places),)))
            self.no((places, ((0, places + 1),)))
            self.no((places, ((places, places + 1),)))
            self.no((places, ((-1, 0),)))
            self.no((places, ((-2, -1),)))
        self.no((3, ((0, 1), (1, 3))))

    def test_truths_as_ends(self):
        for tie in ((0, True), (False, 1), (False, True), (True, 2), (False, 2)):
            self.no((4, (tie,)))
        self.no((4, ((0, 1), (True, 2))))
        self.no((4, ((0, True), (0, 2))))

    def test_ends_of_other_kinds(self):
        for end in (None, "0", "", (), (0,), [0], {}, {0: 0}):
            self.no((4, ((end, 1),)))
            self.no((4, ((0, end),)))
            self.no((4, ((0, 1), (0, end))))
            self.no((4, ((0, 1), (end, 2))))
            self.no((4, ((0, end), (0, 2))))
            self.no((4, ((end, end),)))

    def test_ties_of_none_one_or_three_things(self):
        for tie in ((), (0,), (0, 1, 2), (0, 1, None), (1, 2, 3, 4)):
            self.no((4, (tie,)))
            self.no((4, ((0, 1), tie)))
            self.no((4, (tie, (2, 3))))

    def test_ties_that_are_no_tuples(self):
        for tie in ([0, 1], "01", "ab", {0: 1, 1: 0}, None, 0, 1, True):
            self.no((4, (tie,)))
            self.no((4, ((0, 1), tie)))
            self.no((4, (tie, (2, 3))))
            self.no((4, ((0, 1), tie, (2, 3))))
        self.no((4, (0, 1)))

    def test_lists_where_tuples_are_asked(self):
        for web in small_webs(3):
            self.no(list(web))
            self.no((web[0], list(web[1])))
        self.no((3, ([0, 1],)))
        self.no((3, ((0, 1), [1, 2])))
        self.no([3, [[0, 1]]])

    def test_ties_that_are_no_tuple(self):
        for ties in (None, 0, True, "", "ab", "01", [], {}, {(0, 1): (1, 2)}):
            self.no((3, ties))

    def test_another_count_of_things(self):
        for thing in ((), (3,), ((),), (3, (), ()), (3, (), None), (3, ((0, 1),), ((1, 2),)), ((3, ()),)):
            self.no(thing)

    def test_turned_about(self):
        self.no(((), 3))
        self.no((((0, 1),), 3))

    def test_things_of_all_kinds(self):
        for thing in odd_things():
            self.no(thing)
            self.no((3, thing))
            self.no((3, (thing,)))
            if not is_number(thing):
                self.no((thing, ()))
                self.no((3, ((0, thing),)))
                self.no((3, ((thing, 2),)))

    def test_deep_and_many_things(self):
        for kind in (list, tuple, dict):
            self.no(nested((3, ()), kind, 28))
            self.no((3, nested((0, 1), kind, 28)))
            self.no((nested(3, kind, 29), ()))
        self.no((8, tuple((0, 1) for tie in range(300))))
        self.no((8, tuple(range(900))))
        self.no(tuple(range(1000)))

    def test_nothing_that_is_handed_in_is_changed(self):
        things = odd_things() + [[3, [[0, 1]]], (3, [(1, 2), (0, 1)]), (3, ([1, 0],)), {3: [1]}]
        before = copy.deepcopy(things)
        told = [is_web(thing) for thing in things]
        self.assertEqual(repr(things), repr(before))
        self.assertEqual([is_web(thing) for thing in things], told)

    def test_a_thing_that_is_changed_later(self):
        ties = []
        self.no((3, ties))
        ties.append((0, 1))
        self.no((3, ties))
        self.yes((3, tuple(ties)))


class NearAndTurned(unittest.TestCase):
    def test_near_by_hand(self):
        web = (5, ((0, 2), (1, 2), (2, 4), (3, 4)))
        told = [near(web, place) for place in range(5)]
        self.assertEqual(told, [(2,), (2,), (0, 1, 4), (4,), (2, 3)])
        self.assertEqual(near(empty(1), 0), ())
        self.assertEqual(near(full(8), 7), (0, 1, 2, 3, 4, 5, 6))
        self.assertEqual(near(full(8), 0), (1, 2, 3, 4, 5, 6, 7))

    def test_near_of_each_place(self):
        for web in ASKED:
            for place in range(web[0]):
                told = near(web, place)
                self.assertIs(type(told), tuple)
                self.assertTrue(all(map(is_number, told)))
                self.assertEqual(told, plain_near(web, place), (web, place))

    def test_turned_by_hand(self):
        self.assertEqual(turned(star(4), 0), full(4))
        self.assertEqual(turned(full(4), 0), star(4))
        self.assertEqual(turned(star(4), 1), star(4))
        self.assertEqual(turned(path(3), 1), full(3))
        self.assertEqual(turned(empty(1), 0), empty(1))
        web = (6, ((0, 1), (0, 2), (0, 3), (1, 2), (1, 4), (2, 5), (4, 5)))
        self.assertEqual(turned(web, 0), (6, ((0, 1), (0, 2), (0, 3), (1, 3), (1, 4), (2, 3), (2, 5), (4, 5))))

    def test_turned_at_each_place_pair_by_pair(self):
        for web in ASKED:
            for place in range(web[0]):
                told = turned(web, place)
                self.assertTrue(is_plain_web(told), (web, place, told))
                self.assertEqual(told, plain_turned(web, place), (web, place))
                self.assertIs(is_web(told), True)

    def test_every_web_of_five_places(self):
        for web in all_webs(5):
            for place in range(5):
                self.assertEqual(near(web, place), plain_near(web, place))
                self.assertEqual(turned(web, place), plain_turned(web, place))

    def test_turned_twice_at_one_place(self):
        for web in ASKED:
            for place in range(web[0]):
                self.assertEqual(turned(turned(web, place), place), web)
                self.assertEqual(turned_along(web, (place, place)), web)


class Rows(unittest.TestCase):
    def test_a_row_of_none(self):
        for web in ASKED:
            self.assertEqual(turned_along(web, ()), web)

    def test_a_row_of_one(self):
        for web in ASKED:
            for place in range(web[0]):
                self.assertEqual(turned_along(web, (place,)), plain_turned(web, place))

    def test_the_order_counts(self):
        self.assertEqual(turned_along(path(3), (0, 1)), full(3))
        self.assertEqual(turned_along(path(3), (1, 0)), star(3))

    def test_rows_of_up_to_forty(self):
        draw = random.Random(12)
        for web in drawn_webs(13, 160, 1, 8):
            for many in (2, 3, draw.randrange(4, 40), 40):
                row = tuple(draw.randrange(web[0]) for turn in range(many))
                told = turned_along(web, row)
                self.assertTrue(is_plain_web(told))
                self.assertEqual(told, plain_along(web, row), (web, row))

    def test_a_row_and_the_row_turned_about_lead_back(self):
        draw = random.Random(14)
        for web in drawn_webs(15, 80, 2, 8):
            row = tuple(draw.randrange(web[0]) for turn in range(20))
            self.assertEqual(turned_along(web, row + row[::-1]), web)


class Named(unittest.TestCase):
    def test_by_hand(self):
        self.assertEqual(named((3, ((0, 1),)), (1, 2, 0)), (3, ((0, 2),)))
        self.assertEqual(named((3, ((0, 1),)), (2, 0, 1)), (3, ((1, 2),)))
        self.assertEqual(named(path(4), (2, 0, 3, 1)), (4, ((0, 2), (0, 3), (1, 3))))
        self.assertEqual(named(empty(1), (0,)), empty(1))

    def check(self, web, order):
        told = named(web, order)
        self.assertTrue(is_plain_web(told), (web, order, told))
        self.assertEqual(told[0], web[0])
        for low, high in full(web[0])[1]:
            self.assertEqual(tied(told, low, high), tied(web, order[low], order[high]), (web, order))

    def test_all_orders_of_small_webs(self):
        for web in small_webs(4):
            for order in itertools.permutations(range(web[0])):
                self.check(web, order)

    def test_drawn_orders(self):
        draw = random.Random(16)
        for web in drawn_webs(17, 200, 5, 8):
            self.check(web, tuple(draw.sample(range(web[0]), web[0])))

    def test_the_order_that_changes_nothing(self):
        for web in ASKED:
            self.assertEqual(named(web, tuple(range(web[0]))), web)


class Pieces(unittest.TestCase):
    def test_by_hand(self):
        self.assertEqual(pieces(empty(1)), [(0,)])
        self.assertEqual(pieces(empty(8)), [(place,) for place in range(8)])
        self.assertEqual(pieces(full(8)), [(0, 1, 2, 3, 4, 5, 6, 7)])
        self.assertEqual(pieces((6, ((0, 5), (1, 3), (3, 4)))), [(0, 5), (1, 3, 4), (2,)])
        self.assertEqual(pieces((4, ((0, 3), (1, 2)))), [(0, 3), (1, 2)])
        # Joined only by the way through the greatest places.
        self.assertEqual(pieces((5, ((0, 4), (1, 3), (2, 3), (3, 4)))), [(0, 1, 2, 3, 4)])

    def test_pieces(self):
        sparse = [(web[0], web[1][::3]) for web in drawn_webs(18, 200, 4, 8)]
        for web in ASKED + all_webs(5) + sparse:
            told = pieces(web)
            self.assertIs(type(told), list)
            self.assertTrue(all(type(piece) is tuple and all(map(is_number, piece)) for piece in told))
            self.assertEqual(told, plain_pieces(web), web)

    def test_pieces_stay_by_turns(self):
        for web in ASKED:
            for place in range(web[0]):
                self.assertEqual(pieces(turned(web, place)), pieces(web), (web, place))

    def test_the_list_is_the_askers_own(self):
        web = (4, ((0, 3),))
        told = pieces(web)
        again = pieces(web)
        self.assertIsNot(told, again)
        told.append((9,))
        told[0] = None
        self.assertEqual(again, [(0, 3), (1,), (2,)])
        self.assertEqual(pieces(web), [(0, 3), (1,), (2,)])


class AskedAgain(unittest.TestCase):
    def test_the_same_is_told(self):
        for web in drawn_webs(19, 40, 1, 8):
            order = tuple(reversed(range(web[0])))
            first = [(near(web, at), turned(web, at)) for at in range(web[0])]
            told = (is_web(web), turned_along(web, order), named(web, order), pieces(web))
            self.assertEqual([(near(web, at), turned(web, at)) for at in range(web[0])], first)
            self.assertEqual((is_web(web), turned_along(web, order), named(web, order), pieces(web)), told)


if __name__ == "__main__":
    unittest.main()
