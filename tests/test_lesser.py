"""Points 70 to 73, and point 1 for them."""

import copy
import itertools
import random
import unittest

from nearturns.errors import NoPlaces, TooMany
from nearturns.lesser import all_under, left_out, leads_under, lies_under
from tests.helper import (
    drawn_webs, empty, full, is_number, is_plain_web, nested, odd_things, path, plain_alike, plain_along, plain_near,
    plain_turned, plain_under, plain_without, ring, small_webs, star,
)

ASKED = small_webs(4) + drawn_webs(111, 80, 5, 8) + [full(8), empty(8), star(8), path(8), ring(8)]
WEAVE = (6, ((0, 1), (0, 2), (0, 3), (0, 4), (0, 5), (1, 2), (1, 3), (2, 5), (3, 4), (4, 5)))
LARGE = [WEAVE, path(6), ring(6), star(6), full(6), empty(6), (6, ((0, 1), (2, 3), (4, 5)))]
SEARCHED = small_webs(4) + drawn_webs(112, 12, 5, 6) + LARGE


def plain_step(web, step):
    word, place = step
    return plain_turned(web, place) if word == "turn" else plain_without(web, place)


def drawn_steps(draw, web, many):
    """So many steps that can be made, and where they lead."""
    steps = []
    for at in range(many):
        word = draw.choice(("turn", "turn", "leave")) if web[0] > 1 else "turn"
        step = (word, draw.randrange(web[0]))
        steps.append(step)
        web = plain_step(web, step)
    return tuple(steps), web


class LeftOut(unittest.TestCase):
    def test_by_hand(self):
        self.assertEqual(left_out(path(3), 1), ((2, ()), (2, ((0, 1),)), (2, ((0, 1),))))
        self.assertEqual(left_out(path(3), 0), ((2, ((0, 1),)), (2, ((0, 1),)), (2, ())))
        self.assertEqual(left_out(full(2), 0), (empty(1), empty(1), empty(1)))
        self.assertEqual(left_out(empty(2), 1), (empty(1), empty(1), empty(1)))
        # The least near place of the middle is an end: a turn there changes nothing.
        self.assertEqual(left_out(star(4), 0), (empty(3), full(3), full(3)))
        self.assertEqual(left_out(full(4), 3), (full(3), empty(3), (3, ((0, 1), (0, 2)))))

    def test_numbers_above_the_one_that_goes(self):
        web = (6, ((0, 1), (0, 5), (1, 4), (2, 3), (3, 5), (4, 5)))
        self.assertEqual(left_out(web, 2)[0], (5, ((0, 1), (0, 4), (1, 3), (2, 4), (3, 4))))
        self.assertEqual(left_out(web, 0)[0], (5, ((0, 3), (1, 2), (2, 4), (3, 4))))
        self.assertEqual(left_out(web, 5)[0], (5, ((0, 1), (1, 4), (2, 3))))

    def test_each_place_in_three_ways(self):
        for web in ASKED:
            for place in range(web[0] if web[0] > 1 else 0):
                told = left_out(web, place)
                self.assertIs(type(told), tuple)
                self.assertTrue(all(map(is_plain_web, told)), (web, place, told))
                around = plain_near(web, place)
                third = (around[0], place) if around else ()
                plain = tuple(plain_without(plain_along(web, row), place) for row in ((), (place,), third))
                self.assertEqual(told, plain, (web, place))

    def test_a_place_without_near_places(self):
        for web in (empty(5), (5, ((0, 1), (1, 2))), (6, ((0, 5), (1, 4), (1, 5), (4, 5)))):
            for place in range(web[0]):
                if not plain_near(web, place):
                    self.assertEqual(left_out(web, place), (plain_without(web, place),) * 3)

    def test_the_least_near_place_and_no_other(self):
        web = (4, ((0, 2), (0, 3), (1, 2), (2, 3)))
        rows = {at: plain_without(plain_along(web, (at, 2)), 2) for at in plain_near(web, 2)}
        self.assertNotEqual(rows[0], rows[1])
        self.assertEqual(left_out(web, 2)[2], rows[0])

    def test_a_web_of_one_place(self):
        with self.assertRaises(NoPlaces) as caught:
            left_out(empty(1), 0)
        self.assertIs(type(caught.exception), NoPlaces)

    def test_asked_again_the_same_is_told(self):
        for web in (path(5), WEAVE, ring(8)):
            first = [left_out(web, place) for place in range(web[0])]
            self.assertEqual([left_out(web, place) for place in range(web[0])], first)


class LesserWebsAreAlike(unittest.TestCase):
    def check_whichever_near_place(self, web):
        for place in range(web[0]):
            alike = plain_alike(left_out(web, place)[2])
            for other in plain_near(web, place):
                self.assertIn(plain_without(plain_along(web, (other, place)), place), alike, (web, place, other))

    def test_by_whichever_near_place_in_the_third_way(self):
        for web in small_webs(4)[1:] + drawn_webs(113, 20, 5, 6) + LARGE:
            self.check_whichever_near_place(web)

    def check_lesser(self, web, others):
        for place in range(web[0]):
            alike = set().union(*map(plain_alike, left_out(web, place)))
            for other in others:
                self.assertLessEqual(set(left_out(other, place)), alike, (web, other, place))

    def test_of_alike_webs_the_lesser_ones_are_alike(self):
        draw = random.Random(114)
        for web in small_webs(4)[1:]:
            self.check_lesser(web, plain_alike(web))
        for web in drawn_webs(115, 12, 5, 6) + LARGE:
            alike = sorted(plain_alike(web))
            self.check_lesser(web, draw.sample(alike, min(len(alike), 12)))


class LiesUnder(unittest.TestCase):
    def test_by_hand(self):
        self.assertIs(lies_under((2, ((0, 1),)), path(3)), True)
        self.assertIs(lies_under((2, ()), path(3)), True)
        self.assertIs(lies_under((2, ((0, 1),)), empty(3)), False)
        self.assertIs(lies_under(full(3), path(3)), True)
        self.assertIs(lies_under(empty(3), path(3)), False)
        self.assertIs(lies_under(full(3), path(4)), True)
        self.assertIs(lies_under(empty(1), full(6)), True)
        self.assertIs(lies_under(path(4), star(6)), False)
        self.assertIs(lies_under(ring(5), path(6)), False)

    def test_every_small_web_under_every_other(self):
        webs = small_webs(4)
        for web in small_webs(3) + drawn_webs(116, 12, 4, 4) + [path(4), star(4), empty(4), full(4)]:
            under = plain_under(web)
            for small in webs:
                self.assertIs(lies_under(small, web), small in under, (small, web))

    def test_webs_of_five_and_six_places(self):
        draw = random.Random(117)
        for web in drawn_webs(118, 8, 5, 6) + LARGE:
            under = plain_under(web)
            mixed = draw.sample(sorted(under), min(len(under), 8)) + drawn_webs(119, 12, 3, 6)
            for small in mixed:
                self.assertIs(lies_under(small, web), small in under, (small, web))

    def test_itself_and_alike_ones(self):
        for web in SEARCHED:
            self.assertIs(lies_under(web, web), True)
            self.assertIs(lies_under(plain_along(web, range(web[0])), web), True)

    def test_a_greater_web_lies_not_under_one(self):
        for few, many in itertools.combinations(range(1, 9), 2):
            if few <= 6:
                for make in (empty, path, full):
                    self.assertIs(lies_under(make(many), make(few)), False)

    def test_more_than_six_places(self):
        for places, small in itertools.product((7, 8), range(1, 9)):
            for make in (empty, path, full):
                with self.assertRaises(TooMany) as caught:
                    lies_under(make(small), make(places))
                self.assertIs(type(caught.exception), TooMany)


class AllUnder(unittest.TestCase):
    def test_by_hand(self):
        self.assertEqual(all_under(empty(1), 1), [empty(1)])
        self.assertEqual(all_under(full(2), 2), [full(2)])
        self.assertEqual(all_under(path(3), 2), [(2, ()), (2, ((0, 1),))])
        self.assertEqual(all_under(empty(6), 4), [empty(4)])
        self.assertEqual(all_under((4, ((0, 3),)), 3), [(3, ()), (3, ((0, 2),))])

    def test_each_number_of_places(self):
        for web in SEARCHED:
            under = plain_under(web)
            for places in range(1, web[0] + 1):
                told = all_under(web, places)
                self.assertIs(type(told), list)
                self.assertTrue(all(map(is_plain_web, told)))
                self.assertEqual(told, sorted(small for small in under if small[0] == places), (web, places))

    def test_with_as_many_places_the_alike_ones(self):
        for web in SEARCHED:
            told = all_under(web, web[0])
            self.assertEqual(told, sorted(plain_alike(web)))
            self.assertIn(web, told)

    def test_the_list_is_the_askers_own(self):
        for web, places in ((path(4), 4), (path(4), 3), (ring(6), 5), (empty(1), 1)):
            told, again = all_under(web, places), all_under(web, places)
            self.assertIsNot(told, again)
            before = list(again)
            told.append(None)
            told.reverse()
            self.assertEqual(again, before)
            self.assertEqual(all_under(web, places), before)

    def test_numbers_of_places_that_are_refused(self):
        for web in (empty(1), path(3), full(6), empty(6)):
            for places in (0, -1, -2, -6, -10 ** 30, web[0] + 1, web[0] + 2, 9, 10 ** 30):
                with self.assertRaises(NoPlaces, msg=(web, places)) as caught:
                    all_under(web, places)
                self.assertIs(type(caught.exception), NoPlaces)

    def test_more_than_six_places_ahead_of_the_number(self):
        for many, places in itertools.product((7, 8), (-1, 0, 1, 3, 6, 7, 8, 9, 20)):
            for make in (empty, path, full):
                with self.assertRaises(TooMany) as caught:
                    all_under(make(many), places)
                self.assertIs(type(caught.exception), TooMany)


class LeadsUnder(unittest.TestCase):
    def yes(self, web, small, thing):
        self.assertIs(leads_under(web, small, thing), True, (web, small, thing))

    def no(self, web, small, thing):
        self.assertIs(leads_under(web, small, thing), False, (web, small, thing))

    def test_by_hand(self):
        self.yes(path(3), full(3), (("turn", 1),))
        self.yes(path(3), full(2), (("turn", 1), ("leave", 1)))
        self.yes(path(3), empty(2), (("leave", 1),))
        self.no(path(3), full(2), (("leave", 1),))
        self.no(path(3), full(3), (("turn", 0),))
        self.yes(path(3), empty(1), (("leave", 2), ("leave", 1)))
        self.yes(path(3), empty(1), (("leave", 0), ("leave", 0)))

    def test_none(self):
        for web in ASKED:
            self.yes(web, web, ())
            for place in range(web[0]):
                turned = plain_turned(web, place)
                self.assertIs(leads_under(web, turned, ()), turned == web)
        self.no(path(3), full(3), ())
        self.no(path(3), path(2), ())

    def test_one(self):
        for web in ASKED:
            for place in range(web[0]):
                self.yes(web, plain_turned(web, place), (("turn", place),))
                if web[0] > 1:
                    lesser = plain_without(web, place)
                    self.yes(web, lesser, (("leave", place),))
                    self.no(web, lesser, (("turn", place),))
                    self.no(web, web, (("leave", place),))

    def test_the_order_counts(self):
        self.yes(path(3), full(2), (("turn", 1), ("leave", 1)))
        self.no(path(3), full(2), (("leave", 1), ("turn", 1)))
        self.yes(path(3), empty(2), (("leave", 1), ("turn", 1)))

    def test_places_are_numbered_as_they_are_then(self):
        # Without 0 the middle of what was 1-2-3 is place 1.
        self.yes(path(4), full(3), (("leave", 0), ("turn", 1)))
        self.no(path(4), full(3), (("leave", 0), ("turn", 2)))
        self.no(path(4), path(3), (("leave", 0), ("turn", 3)))
        self.no(path(4), empty(1), (("leave", 3), ("leave", 2), ("leave", 2)))
        self.yes(path(4), empty(1), (("leave", 3), ("leave", 2), ("leave", 1)))

    def test_drawn_steps(self):
        draw = random.Random(120)
        others = drawn_webs(121, 24, 1, 8)
        for web in drawn_webs(122, 60, 1, 8):
            for many in (2, 5, draw.randrange(6, 59), 60):
                steps, small = drawn_steps(draw, web, many)
                self.yes(web, small, steps)
                for other in others:
                    self.assertIs(leads_under(web, other, steps), other == small)

    def test_sixty_and_more(self):
        for web in (path(3), full(8), empty(1)):
            self.yes(web, web, (("turn", 0),) * 60)
            for many in (61, 62, 64, 100, 300):
                self.no(web, web, (("turn", 0),) * many)
        steps = (("turn", 0),) * 58
        self.yes(path(3), path(2), steps + (("leave", 2),) + (("turn", 1),))
        self.no(path(3), path(2), steps + (("turn", 0),) * 2 + (("leave", 2),))

    def test_where_there_is_one_the_other_lies_under(self):
        draw = random.Random(123)
        for web in drawn_webs(124, 30, 1, 6):
            steps, small = drawn_steps(draw, web, draw.randrange(12))
            self.yes(web, small, steps)
            self.assertIs(lies_under(small, web), True)

    def test_places_beyond(self):
        for places in range(1, 9):
            for wrong in (places, places + 1, 8, 9, 10 ** 30, -1, -places):
                for word in ("turn", "leave"):
                    for small in (empty(places), empty(max(places - 1, 1))):
                        self.no(empty(places), small, ((word, wrong),))
                        self.no(empty(places), small, (("turn", 0), (word, wrong)))

    def test_the_only_place_is_not_left_out(self):
        self.no(empty(1), empty(1), (("leave", 0),))
        self.no(empty(1), (0, ()), (("leave", 0),))
        self.no(full(2), empty(1), (("leave", 0), ("leave", 0)))
        self.no(full(2), empty(1), (("leave", 0), ("leave", 0), ("turn", 0)))
        self.yes(full(2), empty(1), (("leave", 0), ("turn", 0)))

    def test_lists_where_tuples_are_asked(self):
        self.no(path(3), path(3), [])
        self.no(path(3), full(3), [("turn", 1)])
        self.no(path(3), full(3), (["turn", 1],))
        self.no(path(3), full(3), [["turn", 1]])
        self.no(path(3), full(3), ("turn", 1))
        self.no(path(3), empty(2), ("leave", 1))
        self.no(path(3), full(3), ((("turn",), (1,)),))

    def test_truths(self):
        self.no(path(3), full(3), (("turn", True),))
        self.no(path(3), path(3), (("turn", False),))
        self.no(path(3), empty(2), (("leave", True),))
        self.no(path(3), full(3), ((True, 1),))

    def test_other_words(self):
        for word in ("Turn", "turn ", " turn", "TURN", "turns", "t", "", "left", "pivot", "turned", None, 0, b"turn"):
            self.no(path(3), full(3), ((word, 1),))
        for word in ("Leave", "leave ", "LEAVE", "leaves", "left", "", ("leave",), ["leave"], {"leave": 1}):
            self.no(path(3), empty(2), ((word, 1),))

    def test_turned_about(self):
        self.no(path(3), full(3), ((1, "turn"),))
        self.no(path(3), empty(2), ((1, "leave"),))

    def test_longer_and_shorter_steps(self):
        for step in ((), ("turn",), (1,), ("turn", 1, 1), ("turn", 1, None), ("turn", 0, 1), ("turn", "turn", 1)):
            self.no(path(3), full(3), (step,))
            self.no(path(3), full(3), (("turn", 1), step))
            self.no(path(3), full(3), (step, ("turn", 1)))

    def test_what_is_wrong_behind_what_leads_there(self):
        for wrong in (None, 1, "turn", ("turn", 3), ("stay", 0), ("turn", None), ("turn", "1"), ["turn", 0], {}):
            self.no(path(3), full(3), (("turn", 1), wrong))

    def test_things_of_all_kinds(self):
        for thing in odd_things():
            for web in (empty(1), path(3), full(8)):
                self.no(web, web, thing)
                self.no(web, web, (thing,))
                self.no(web, web, ((thing, 0),))
                self.no(web, web, ((thing, thing),))
                if not is_number(thing):
                    self.no(web, web, (("turn", thing),))
                    self.no(web, plain_without(web, 0), (("leave", thing),))

    def test_deep_things(self):
        for kind in (list, tuple, dict):
            for inmost in (("turn", 1), (("turn", 1),), "turn", ()):
                self.no(path(3), full(3), nested(inmost, kind, 28))
                self.no(path(3), full(3), (nested(inmost, kind, 28),))
            self.no(path(3), full(3), (("turn", nested(1, kind, 28)),))
            self.no(path(3), full(3), ((nested("turn", kind, 28), 1),))
        self.no(path(3), path(3), ("turn",) * 900)

    def test_nothing_that_is_handed_in_is_changed_or_kept(self):
        things = odd_things() + [[["turn", 1]], (["turn", 1],), {"turn": [1]}]
        before = copy.deepcopy(things)
        told = [leads_under(path(3), full(3), thing) for thing in things]
        self.assertEqual(repr(things), repr(before))
        self.assertEqual([leads_under(path(3), full(3), thing) for thing in things], told)
        steps = []
        self.no(path(3), path(3), steps)
        steps.append(("turn", 1))
        self.yes(path(3), full(3), tuple(steps))


if __name__ == "__main__":
    unittest.main()
