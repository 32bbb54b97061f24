"""Points 30 to 32, and point 1 for them."""

import copy
import itertools
import random
import unittest

from nearturns.errors import TooMany
from nearturns.ways import all_alike, are_alike, leads, way
from tests.helper import (
    drawn_webs, empty, full, is_number, is_plain_web, nested, odd_things, path, plain_alike, plain_along, plain_way,
    ring, small_webs, star, turns_to,
)

# Of six places: no web has more alike ones than the first, 372, nor a longer way from or to it, of seven turns.
LARGE = [(6, ((0, 1), (0, 2), (0, 3), (1, 4), (1, 5), (2, 4), (3, 5))), path(6), ring(6), star(6), empty(6)]
FIVE = [path(5), ring(5), star(5), full(5), (5, ((0, 3), (0, 4), (1, 4), (2, 3)))]


class Leads(unittest.TestCase):
    def yes(self, one, other, thing):
        self.assertIs(leads(one, other, thing), True, (one, other, thing))

    def no(self, one, other, thing):
        self.assertIs(leads(one, other, thing), False, (one, other, thing))

    def test_by_hand(self):
        self.yes(path(3), full(3), (1,))
        self.yes(path(3), full(3), (0, 1))
        self.yes(path(3), star(3), (1, 0))
        self.no(path(3), star(3), (0, 1))
        self.no(path(3), full(3), (0,))
        self.no(path(3), full(3), ())
        self.no(path(3), full(3), (1, 1))
        self.yes(empty(1), empty(1), (0, 0, 0))

    def test_rows_that_lead_and_rows_that_do_not(self):
        draw = random.Random(41)
        for one in drawn_webs(42, 160, 1, 8):
            row = tuple(draw.randrange(one[0]) for turn in range(draw.randrange(41)))
            other = plain_along(one, row)
            self.yes(one, other, row)
            self.yes(other, one, row[::-1])
            for at in range(one[0]):
                self.assertIs(leads(one, other, row[1:] + (at,)), plain_along(one, row[1:] + (at,)) == other)
            if one[0] > 1:
                self.no(one, (other[0], other[1][1:]) if other[1] else full(other[0]), row)

    def test_the_empty_row(self):
        for web in small_webs(3) + drawn_webs(43, 20, 4, 8):
            self.yes(web, web, ())
            self.no(web, web, [])
            self.no(web, web, "")
            self.no(web, web, {})
            self.no(web, web, None)

    def test_forty_turns_and_more(self):
        for web in (path(3), full(8), empty(1)):
            for many in (38, 40):
                self.yes(web, web, (0,) * many)
            for many in (41, 42, 44, 80, 1000):
                self.no(web, web, (0,) * many)
        self.yes(path(3), full(3), (1,) * 39)
        self.no(path(3), full(3), (1,) * 41)

    def test_places_beyond_the_web(self):
        for places in range(1, 9):
            web = empty(places)
            for place in (places, places + 1, 8, 100, 10 ** 30, -1, -places, -places - 1):
                self.no(web, web, (place,))
                self.no(web, web, (0, place))
                self.no(web, web, (place, place))
        self.no(path(3), full(3), (-2,))
        self.no(path(3), full(3), (3, 1))

    def test_truths(self):
        self.no(path(3), full(3), (True,))
        self.no(path(3), full(3), (False, 1))
        self.no(path(3), path(3), (False,))
        self.no(path(3), path(3), (True, True))
        self.no(path(3), path(3), True)
        self.no(path(3), path(3), False)

    def test_no_tuples(self):
        for thing in ([1], "1", {1: 1}, 1, [[1]], ([1],), ("1",), ((1,),), ({1: 1},), (None,)):
            self.no(path(3), full(3), thing)

    def test_a_wrong_thing_anywhere_in_a_row(self):
        for wrong in (None, "0", "", True, False, [0], (0,), {}, -1, 3):
            self.no(path(3), path(3), (wrong, 0, 0))
            self.no(path(3), path(3), (0, wrong, 0))
            self.no(path(3), path(3), (0, 0, wrong))

    def test_things_of_all_kinds(self):
        for thing in odd_things():
            self.no(path(3), path(3), thing)
            self.no(empty(8), empty(8), thing)
            self.no(path(3), full(4), thing)

    def test_deep_and_many_things(self):
        for kind in (list, tuple, dict):
            self.no(path(3), full(3), nested((1,), kind, 29))
            self.no(path(3), full(3), (nested(1, kind, 29),))
        self.no(path(3), path(3), tuple([None] * 999))

    def test_unlike_numbers_of_places(self):
        for one in range(1, 9):
            for other in range(1, 9):
                if one != other:
                    for thing in ((), (0,), (one - 1,), (0, 0), (other - 1,), None, "0", [0]):
                        self.no(empty(one), empty(other), thing)
                        self.no(path(one), path(other), thing)

    def test_webs_of_seven_and_eight_places_are_not_refused(self):
        self.yes(star(7), full(7), (0,))
        self.yes(star(8), full(8), (0,))
        self.no(star(8), full(8), (1,))

    def test_nothing_that_is_handed_in_is_changed(self):
        things = odd_things() + [[1, 0], ([1],), {1: [0]}]
        before = copy.deepcopy(things)
        told = [leads(path(3), full(3), thing) for thing in things]
        self.assertEqual(repr(things), repr(before))
        self.assertEqual([leads(path(3), full(3), thing) for thing in things], told)


class AllAlike(unittest.TestCase):
    def check(self, web):
        told = all_alike(web)
        self.assertIs(type(told), list)
        self.assertTrue(all(map(is_plain_web, told)), web)
        self.assertEqual(told, sorted(plain_alike(web)), web)

    def test_by_hand(self):
        self.assertEqual(all_alike(empty(1)), [(1, ())])
        self.assertEqual(all_alike((2, ((0, 1),))), [(2, ((0, 1),))])
        self.assertEqual(
            all_alike(path(3)),
            [(3, ((0, 1), (0, 2))), (3, ((0, 1), (0, 2), (1, 2))), (3, ((0, 1), (1, 2))), (3, ((0, 2), (1, 2)))],
        )
        self.assertEqual(all_alike((4, ((0, 1), (2, 3)))), [(4, ((0, 1), (2, 3)))])
        self.assertEqual(len(all_alike(star(6))), 7)

    def test_every_small_web(self):
        for web in small_webs(4):
            self.check(web)

    def test_webs_of_five_and_six_places(self):
        for web in FIVE + LARGE + drawn_webs(44, 12, 5, 6):
            self.check(web)

    def test_alike_webs_have_the_same_list(self):
        for web in small_webs(3) + [path(4), (5, ((0, 1), (0, 2), (3, 4)))]:
            told = all_alike(web)
            for other in told:
                self.assertEqual(all_alike(other), told)

    def test_the_list_is_the_askers_own(self):
        told = all_alike(path(3))
        again = all_alike(path(3))
        self.assertIsNot(told, again)
        before = list(again)
        told.reverse()
        told.append(None)
        self.assertEqual(again, before)
        self.assertEqual(all_alike(path(3)), before)
        self.assertEqual(all_alike(full(3)), before)

    def test_more_than_six_places(self):
        for places in (7, 8):
            for make in (empty, path, star, full):
                with self.assertRaises(TooMany):
                    all_alike(make(places))


class AreAlike(unittest.TestCase):
    def test_by_hand(self):
        self.assertIs(are_alike(path(3), full(3)), True)
        self.assertIs(are_alike(path(4), star(4)), False)
        self.assertIs(are_alike(star(6), full(6)), True)
        self.assertIs(are_alike(path(6), ring(6)), False)
        self.assertIs(are_alike(empty(1), empty(1)), True)
        # The one named anew is alike with the other, yet they are not alike as they are.
        self.assertIs(are_alike((3, ((0, 1),)), (3, ((0, 2),))), False)

    def test_every_two_small_webs(self):
        webs = small_webs(4)
        for one in webs:
            alike = plain_alike(one)
            for other in webs:
                self.assertIs(are_alike(one, other), other in alike, (one, other))

    def test_drawn_webs(self):
        draw = random.Random(45)
        webs = FIVE + LARGE + drawn_webs(46, 10, 5, 6)
        for one in webs:
            alike = plain_alike(one)
            row = tuple(draw.randrange(one[0]) for turn in range(15))
            self.assertIs(are_alike(one, plain_along(one, row)), True)
            for other in webs:
                self.assertIs(are_alike(one, other), other in alike, (one, other))

    def test_unlike_numbers_of_places(self):
        for one, other in itertools.permutations(range(1, 7), 2):
            self.assertIs(are_alike(empty(one), empty(other)), False)
            self.assertIs(are_alike(path(one), path(other)), False)

    def test_more_than_six_places(self):
        check_refused(self, are_alike)


class Way(unittest.TestCase):
    def test_by_hand(self):
        self.assertEqual(way(path(3), full(3)), (1,))
        self.assertEqual(way(path(3), star(3)), (1, 0))
        self.assertEqual(way(star(6), full(6)), (0,))
        self.assertIsNone(way(path(4), star(4)))
        self.assertIsNone(way((3, ((0, 1),)), (3, ((0, 2),))))

    def test_a_web_and_itself(self):
        for web in small_webs(4) + FIVE + LARGE:
            told = way(web, web)
            self.assertIs(type(told), tuple)
            self.assertEqual(told, ())

    def test_the_first_of_all_rows_of_small_webs(self):
        for one in small_webs(3) + [path(4), star(4), ring(4), (4, ((0, 1), (2, 3)))]:
            places = one[0]
            firsts = {}
            for many in range(5):
                for row in itertools.product(range(places), repeat=many):
                    firsts.setdefault(plain_along(one, row), row)
            for other in small_webs(4):
                self.assertEqual(way(one, other), firsts.get(other), (one, other))

    def check(self, one, other, turns):
        told = way(one, other)
        self.assertEqual(told, plain_way(one, turns), (one, other))
        if told is not None:
            self.assertIs(type(told), tuple)
            self.assertTrue(all(map(is_number, told)))
            self.assertEqual(plain_along(one, told), other)
            self.assertIs(leads(one, other, told), True)

    def test_every_two_webs_of_four_places(self):
        webs = [web for web in small_webs(4) if web[0] == 4]
        for other in webs:
            turns = turns_to(other)
            for one in webs:
                self.check(one, other, turns)

    def test_webs_of_five_and_six_places(self):
        draw = random.Random(47)
        for other in FIVE + LARGE + drawn_webs(48, 8, 5, 6):
            turns = turns_to(other)
            alike = sorted(turns)
            farthest = max(alike, key=lambda web: turns[web])
            for one in [farthest] + draw.sample(alike, min(len(alike), 12)):
                self.check(one, other, turns)

    def test_the_longest_way(self):
        turns = turns_to(LARGE[0])
        self.assertEqual((len(turns), max(turns.values())), (372, 7))
        for one in turns:
            if turns[one] == 7:
                self.check(one, LARGE[0], turns)

    def test_the_way_back_has_as_many_turns_and_no_place_twice_in_a_row(self):
        draw = random.Random(49)
        for one in small_webs(3) + FIVE + LARGE[:3]:
            alike = sorted(plain_alike(one))
            for other in draw.sample(alike, min(len(alike), 8)):
                there, back = way(one, other), way(other, one)
                self.assertEqual(len(there), len(back))
                for row in (there, back):
                    self.assertTrue(all(first != second for first, second in zip(row, row[1:])), row)

    def test_webs_that_are_not_alike(self):
        self.assertIsNone(way(path(6), ring(6)))
        self.assertIsNone(way(empty(6), full(6)))
        self.assertIsNone(way((5, ((0, 1),)), (5, ((1, 2),))))

    def test_unlike_numbers_of_places(self):
        for one, other in itertools.permutations(range(1, 7), 2):
            self.assertIsNone(way(empty(one), empty(other)))
            self.assertIsNone(way(path(one), path(other)))

    def test_more_than_six_places(self):
        check_refused(self, way)

    def test_asked_again_the_same_is_told(self):
        pairs = [(path(5), ring(5)), (path(4), star(4)), (path(3), full(3)), (star(6), full(6))]
        first = [(way(one, other), are_alike(one, other)) for one, other in pairs]
        self.assertEqual([(way(one, other), are_alike(one, other)) for one, other in pairs], first)


def check_refused(case, ask):
    """With more than six places in the one, in the other or in both, also where the webs are the same."""
    for many, few in itertools.product((7, 8), range(1, 7)):
        for make in (empty, path):
            with case.assertRaises(TooMany):
                ask(make(many), make(few))
            with case.assertRaises(TooMany):
                ask(make(few), make(many))
    for one, other in itertools.product((7, 8), repeat=2):
        with case.assertRaises(TooMany):
            ask(path(one), path(other))


if __name__ == "__main__":
    unittest.main()
