"""Points 50 to 52, and point 1 for them."""

import copy
import itertools
import random
import unittest

from nearturns.papers import about, behind, is_paper, row_paper, turn_paper
from tests.helper import (
    all_webs, drawn_webs, empty, full, is_number, nested, odd_things, path, plain_alike, plain_along, plain_near,
    plain_turned, ring, small_webs, star, tied,
)

ASKED = small_webs(4) + drawn_webs(71, 60, 5, 8) + [full(8), empty(8), star(8), path(8), ring(8)]
EACH_FOUR = list(itertools.product((0, 1), repeat=4))
FOURS = [(a, b, c, d) for a, b, c, d in EACH_FOUR if (a * d == 1) != (b * c == 1)]
STAYS = (1, 0, 0, 1)


def comes_even(one, other, paper, j, k):
    """Point 50 for two places, count by count."""
    count = 0
    for i in range(one[0]):
        if paper[i][2] == 1 and tied(other, i, j) and tied(one, i, k):
            count += 1
    if tied(other, j, k) and paper[k][3] == 1:
        count += 1
    if tied(one, j, k) and paper[j][0] == 1:
        count += 1
    if j == k and paper[j][1] == 1:
        count += 1
    return count % 2 == 0


def plain_paper(one, other, paper):
    """Point 50 for two webs of as many places and as many fours of bits."""
    places = range(one[0])
    fours = all(four in FOURS for four in paper)
    return fours and all(comes_even(one, other, paper, j, k) for j in places for k in places)


def drawn_row(draw, web, many):
    return tuple(draw.randrange(web[0]) for turn in range(many))


def drawn_fours(draw, many):
    return tuple(draw.choice(FOURS) for place in range(many))


class Bits(unittest.TestCase):
    """A told paper is a tuple of tuples of four whole numbers, one for each place."""

    def check_form(self, told, places):
        self.assertIs(type(told), tuple)
        self.assertEqual(len(told), places)
        for four in told:
            self.assertIs(type(four), tuple)
            self.assertEqual(len(four), 4)
            self.assertTrue(all(map(is_number, four)), told)
            self.assertIn(four, FOURS)


class IsPaper(unittest.TestCase):
    def yes(self, one, other, thing):
        self.assertIs(is_paper(one, other, thing), True, (one, other, thing))

    def no(self, one, other, thing):
        self.assertIs(is_paper(one, other, thing), False, (one, other, thing))

    def test_by_hand(self):
        self.yes(path(3), full(3), ((1, 1, 0, 1), (1, 0, 1, 1), (1, 1, 0, 1)))
        self.yes(full(3), path(3), ((1, 1, 0, 1), (1, 0, 1, 1), (1, 1, 0, 1)))
        self.no(path(3), full(3), ((1, 0, 1, 1), (1, 1, 0, 1), (1, 1, 0, 1)))
        self.no(path(3), full(3), (STAYS, STAYS, STAYS))
        self.yes(empty(1), empty(1), (STAYS,))
        self.yes(empty(1), empty(1), ((1, 0, 1, 1),))
        self.no(empty(1), empty(1), ((1, 1, 0, 1),))
        self.no(empty(1), empty(1), ((0, 1, 1, 0),))
        self.yes(full(2), full(2), ((0, 1, 1, 0), (0, 1, 1, 0)))

    def test_a_web_and_itself(self):
        for web in ASKED:
            self.yes(web, web, (STAYS,) * web[0])

    def test_every_bit_of_one_and_two_places(self):
        for places in (1, 2):
            for one, other in itertools.product(all_webs(places), repeat=2):
                for paper in itertools.product(EACH_FOUR, repeat=places):
                    self.assertIs(is_paper(one, other, paper), plain_paper(one, other, paper), (one, other, paper))

    def test_every_four_of_three_places(self):
        for one, other in itertools.product(all_webs(3), repeat=2):
            for paper in itertools.product(FOURS, repeat=3):
                self.assertIs(is_paper(one, other, paper), plain_paper(one, other, paper), (one, other, paper))

    def test_there_is_a_paper_just_where_webs_are_alike(self):
        for places in (1, 2, 3):
            papers = list(itertools.product(FOURS, repeat=places))
            for one, other in itertools.product(all_webs(places), repeat=2):
                alike = other in plain_alike(one)
                self.assertEqual(any(is_paper(one, other, paper) for paper in papers), alike, (one, other))

    def test_there_is_a_paper_just_where_webs_of_four_places_are_alike(self):
        draw = random.Random(72)
        papers = list(itertools.product(FOURS, repeat=4))
        webs = all_webs(4)
        some = [tuple(draw.sample(webs, 2)) for pair in range(16)]
        some += [(web, draw.choice(sorted(plain_alike(web)))) for web in draw.sample(webs, 8)]
        some += [(path(4), star(4)), (path(4), ring(4)), ((4, ((0, 1), (2, 3))), (4, ((0, 2), (1, 3))))]
        for one, other in some:
            alike = other in plain_alike(one)
            self.assertEqual(any(is_paper(one, other, paper) for paper in papers), alike, (one, other))

    def test_a_wrong_bit_anywhere(self):
        draw = random.Random(73)
        for one in drawn_webs(74, 60, 1, 8):
            row = drawn_row(draw, one, 6)
            other, paper = plain_along(one, row), row_paper(one, row)
            self.yes(one, other, paper)
            for at, bit in itertools.product(range(one[0]), range(4)):
                four = list(paper[at])
                four[bit] = 1 - four[bit]
                wrong = paper[:at] + (tuple(four),) + paper[at + 1:]
                self.assertIs(is_paper(one, other, wrong), plain_paper(one, other, wrong), (one, other, wrong))

    def test_other_webs_and_other_fours(self):
        draw = random.Random(75)
        for one in drawn_webs(76, 60, 2, 8):
            row = drawn_row(draw, one, 5)
            other, paper = plain_along(one, row), row_paper(one, row)
            for at in range(one[0]):
                third = plain_turned(other, at)
                self.assertIs(is_paper(one, third, paper), plain_paper(one, third, paper))
                self.assertIs(is_paper(third, other, paper), plain_paper(third, other, paper))
            for many in range(10):
                fours = drawn_fours(draw, one[0])
                self.assertIs(is_paper(one, other, fours), plain_paper(one, other, fours))

    def test_lists_where_tuples_are_asked(self):
        for web in ASKED[:20] + [path(5)]:
            paper = (STAYS,) * web[0]
            self.no(web, web, list(paper))
            self.no(web, web, [list(four) for four in paper])
            for at in range(web[0]):
                self.no(web, web, paper[:at] + (list(STAYS),) + paper[at + 1:])

    def test_truths_and_other_things_for_bits(self):
        paper = turn_paper(path(3), 1)
        self.yes(path(3), full(3), paper)
        for at, bit in itertools.product(range(3), range(4)):
            truth = bool(paper[at][bit])
            for wrong in (truth, not truth, None, "0", "1", "", 2, 3, -1, 10 ** 30, (), (1,), [1], {}, {0: 1}):
                four = paper[at][:bit] + (wrong,) + paper[at][bit + 1:]
                self.no(path(3), full(3), paper[:at] + (four,) + paper[at + 1:])

    def test_numbers_that_are_even_or_odd_but_no_bits(self):
        for four in ((3, 0, 0, 1), (1, 2, 0, 1), (1, 0, 2, 1), (1, 0, 0, -1), (-1, 0, 0, -1), (1, 0, 0, 3)):
            self.no(empty(1), empty(1), (four,))
            self.no(full(2), full(2), (STAYS, four))
            self.no(full(2), full(2), (four, STAYS))

    def test_none_and_both_of_the_two_products(self):
        for four in EACH_FOUR:
            if four not in FOURS:
                self.no(empty(1), empty(1), (four,))
                self.no(empty(3), empty(3), (STAYS, four, STAYS))
        self.no(empty(1), empty(1), ((0, 0, 0, 0),))
        self.no(empty(1), empty(1), ((1, 1, 1, 1),))

    def test_another_count_of_bits(self):
        for places in (1, 2, 5):
            web = path(places)
            for four in ((), (1,), (1, 0), (1, 0, 0), (1, 0, 0, 1, 0), (1, 0, 0, 1, None), (1, 0, 0, 1) * 2):
                self.no(web, web, (STAYS,) * (places - 1) + (four,))
                self.no(web, web, (four,) + (STAYS,) * (places - 1))
                self.no(web, web, (four,) * places)

    def test_a_place_fewer_or_more(self):
        for places in range(1, 9):
            for web in (empty(places), path(places)):
                for many in range(11):
                    self.assertIs(is_paper(web, web, (STAYS,) * many), many == places, (web, many))
                self.no(web, web, (STAYS,) * places + (None,))

    def test_what_is_no_tuple_of_fours(self):
        for four in (None, 0, 1, True, "1001", "", [1, 0, 0, 1], {1: 1, 0: 0}, {0: 1, 1: 0, 2: 0, 3: 1}, (STAYS,)):
            self.no(empty(1), empty(1), (four,))
            self.no(full(2), full(2), (STAYS, four))
            self.no(full(2), full(2), (four, STAYS))
            self.no(full(4), full(4), four)
        self.no(empty(4), empty(4), (1, 0, 0, 1))
        self.no(empty(4), empty(4), "1001")
        self.no(empty(1), empty(1), {STAYS: STAYS})
        self.no(empty(1), empty(1), {0: STAYS})

    def test_things_of_all_kinds(self):
        for thing in odd_things():
            for one, other in ((empty(1), empty(1)), (full(2), full(2)), (path(3), full(3)), (empty(8), empty(8))):
                self.no(one, other, thing)
                self.no(one, other, (thing,) * one[0])
                self.no(one, other, (STAYS,) * (one[0] - 1) + (thing,))
                if not is_number(thing):
                    self.no(one, other, ((1, 0, thing, 1),) * one[0])

    def test_deep_and_many_things(self):
        for kind in (list, tuple, dict):
            for inmost in (1, STAYS, (STAYS,)):
                self.no(empty(1), empty(1), nested(inmost, kind, 28))
                self.no(empty(1), empty(1), (nested(inmost, kind, 28),))
                self.no(empty(1), empty(1), ((1, 0, nested(inmost, kind, 28), 1),))
        self.no(empty(8), empty(8), (STAYS,) * 190)
        self.no(empty(8), empty(8), (STAYS * 240,) + (STAYS,) * 7)

    def test_unlike_numbers_of_places(self):
        for one, other in itertools.permutations(range(1, 9), 2):
            for make in (empty, path):
                for many in (0, one, other):
                    self.no(make(one), make(other), (STAYS,) * many)
                    self.no(make(one), make(other), ((1, 0, 1, 1),) * many)
                for thing in (None, "", [], {}, True, (), ((),)):
                    self.no(make(one), make(other), thing)

    def test_nothing_that_is_handed_in_is_changed(self):
        things = odd_things() + [[list(STAYS)] * 3, ([1, 0, 0, 1],) * 3, {0: [1, 0, 0, 1]}]
        before = copy.deepcopy(things)
        told = [is_paper(path(3), path(3), thing) for thing in things]
        self.assertEqual(repr(things), repr(before))
        self.assertEqual([is_paper(path(3), path(3), thing) for thing in things], told)


class TurnPaper(Bits):
    def test_by_hand(self):
        self.assertEqual(turn_paper(path(4), 1), ((1, 1, 0, 1), (1, 0, 1, 1), (1, 1, 0, 1), (1, 0, 0, 1)))
        self.assertEqual(turn_paper(empty(1), 0), ((1, 0, 1, 1),))
        self.assertEqual(turn_paper(empty(2), 1), ((1, 0, 0, 1), (1, 0, 1, 1)))

    def test_each_place(self):
        for web in ASKED:
            for place in range(web[0]):
                told = turn_paper(web, place)
                self.check_form(told, web[0])
                for at, four in enumerate(told):
                    near = at in plain_near(web, place)
                    self.assertEqual(four, (1, 0, 1, 1) if at == place else (1, 1, 0, 1) if near else (1, 0, 0, 1))

    def test_it_is_one_for_the_web_and_the_turned_one(self):
        for web in ASKED:
            for place in range(web[0]):
                other = plain_turned(web, place)
                told = turn_paper(web, place)
                self.assertTrue(plain_paper(web, other, told), (web, place))
                self.assertIs(is_paper(web, other, told), True, (web, place))
                self.assertEqual(turn_paper(web, place), told)


class Behind(Bits):
    def test_by_hand(self):
        self.assertEqual(behind(((1, 1, 0, 1),), ((1, 0, 1, 1),)), ((1, 1, 1, 0),))
        self.assertEqual(behind(((1, 0, 1, 1),), ((1, 1, 0, 1),)), ((0, 1, 1, 1),))
        self.assertEqual(behind(((0, 1, 1, 0),), ((1, 1, 0, 1),)), ((1, 1, 1, 0),))
        self.assertEqual(
            behind(((1, 0, 1, 1), (0, 1, 1, 0)), ((1, 0, 1, 1), (0, 1, 1, 0))), ((1, 0, 0, 1), (1, 0, 0, 1)))

    def check(self, paper, later):
        told = behind(paper, later)
        self.check_form(told, len(paper))
        for at, (a, b, c, d) in enumerate(paper):
            e, f, g, h = later[at]
            sums = (e * a + f * c, e * b + f * d, g * a + h * c, g * b + h * d)
            self.assertEqual(told[at], tuple(1 if number in (1, 3) else 0 for number in sums))

    def test_every_two_fours(self):
        for four, later in itertools.product(FOURS, repeat=2):
            self.check((four,), (later,))
            self.check((STAYS, four, later), (later, STAYS, four))

    def test_fours_that_are_no_papers(self):
        draw = random.Random(77)
        for many in list(range(1, 9)) * 10:
            self.check(drawn_fours(draw, many), drawn_fours(draw, many))

    def test_papers_one_behind_the_other_are_papers(self):
        draw = random.Random(78)
        for one in drawn_webs(79, 60, 1, 8):
            first, second = drawn_row(draw, one, 4), drawn_row(draw, one, 5)
            other = plain_along(one, first)
            third = plain_along(other, second)
            told = behind(row_paper(one, first), row_paper(other, second))
            self.check_form(told, one[0])
            self.assertIs(is_paper(one, third, told), True)
            self.assertTrue(plain_paper(one, third, told))

    def test_asked_again_the_same_is_told(self):
        paper, later = turn_paper(path(4), 1), turn_paper(path(4), 2)
        self.assertEqual(behind(paper, later), behind(paper, later))
        self.assertNotEqual(behind(paper, later), behind(later, paper))


class RowPaper(Bits):
    def check(self, web, row):
        told = row_paper(web, row)
        self.check_form(told, web[0])
        self.assertTrue(plain_paper(web, plain_along(web, row), told), (web, row))
        self.assertIs(is_paper(web, plain_along(web, row), told), True)
        known, paper = web, (STAYS,) * web[0]
        for place in row:
            paper = behind(paper, turn_paper(known, place))
            known = plain_turned(known, place)
        self.assertEqual(told, paper, (web, row))

    def test_by_hand(self):
        self.assertEqual(row_paper(path(3), (1, 0)), ((1, 1, 1, 0), (0, 1, 1, 1), STAYS))
        self.assertEqual(row_paper(full(2), (0, 1, 0)), ((0, 1, 1, 0), (0, 1, 1, 0)))

    def test_no_turn(self):
        for web in ASKED:
            self.check(web, ())
            self.assertEqual(row_paper(web, ()), (STAYS,) * web[0])

    def test_one_turn(self):
        for web in ASKED:
            for place in range(web[0]):
                self.assertEqual(row_paper(web, (place,)), turn_paper(web, place))

    def test_one_place_twice(self):
        for web in ASKED:
            for place in range(web[0]):
                self.assertEqual(row_paper(web, (place, place)), (STAYS,) * web[0])

    def test_two_to_forty_turns_and_some_more(self):
        draw = random.Random(80)
        for web in drawn_webs(81, 48, 1, 8) + [full(8), path(8)]:
            for many in (2, 3, 9, 39, 40, 43):
                self.check(web, drawn_row(draw, web, many))

    def test_the_row_back_undoes_it(self):
        draw = random.Random(82)
        for web in drawn_webs(83, 48, 1, 8):
            row = drawn_row(draw, web, 20)
            there, back = row_paper(web, row), row_paper(plain_along(web, row), row[::-1])
            self.assertEqual(behind(there, back), (STAYS,) * web[0])
            self.assertEqual(about(there), back)

    def test_asked_again_the_same_is_told(self):
        self.assertEqual(row_paper(ring(6), (0, 3, 1)), row_paper(ring(6), (0, 3, 1)))


class About(Bits):
    def test_by_hand(self):
        self.assertEqual(about(((1, 1, 1, 0), (0, 1, 1, 1), (1, 0, 1, 1))), ((0, 1, 1, 1), (1, 1, 1, 0), (1, 0, 1, 1)))

    def test_every_four_and_fours_that_are_no_papers(self):
        draw = random.Random(84)
        for paper in [(four,) for four in FOURS] + [drawn_fours(draw, many) for many in list(range(1, 9)) * 6]:
            told = about(paper)
            self.check_form(told, len(paper))
            self.assertEqual(told, tuple((d, b, c, a) for a, b, c, d in paper))
            self.assertEqual(about(told), paper)

    def test_it_is_one_for_the_other_web_and_the_one(self):
        draw = random.Random(85)
        for one in ASKED:
            row = drawn_row(draw, one, 7)
            other = plain_along(one, row)
            told = about(row_paper(one, row))
            self.assertIs(is_paper(other, one, told), True, (one, row))
            self.assertTrue(plain_paper(other, one, told), (one, row))

    def test_every_paper_of_webs_of_three_places(self):
        for one, other in itertools.product(all_webs(3), repeat=2):
            for paper in itertools.product(FOURS, repeat=3):
                self.assertIs(is_paper(other, one, about(paper)), is_paper(one, other, paper))


if __name__ == "__main__":
    unittest.main()
