"""Points 60 to 62, and point 1 for them."""

import itertools
import random
import unittest

from nearturns.errors import TooMany
from nearturns.kinds import all_webs, kinds, kinds_many, least_form, wide_kinds, wide_kinds_many
from tests.helper import (
    all_webs as plain_webs, drawn_webs, empty, full, is_number, is_plain_web, path, plain_alike, plain_renamed,
    plain_wide, ring, small_webs, star,
)

BEYOND = (6, 7, 8, 9, 10, 100, 10 ** 9, 10 ** 40)


def plain_parted(places, kind_of):
    """All webs of so many places, parted: lot for lot, the lots by their least webs."""
    left = set(plain_webs(places))
    lots = []
    while left:
        lot = kind_of(min(left))
        lots.append(sorted(lot))
        left -= lot
    return lots


def check_refused(case, ask, beyond):
    for many in beyond:
        with case.assertRaises(TooMany, msg=many) as caught:
            ask(many)
        case.assertIs(type(caught.exception), TooMany)


class AllWebs(unittest.TestCase):
    def test_by_hand(self):
        self.assertEqual(all_webs(1), [(1, ())])
        self.assertEqual(all_webs(2), [(2, ()), (2, ((0, 1),))])
        self.assertEqual(
            all_webs(3),
            [
                (3, ()), (3, ((0, 1),)), (3, ((0, 1), (0, 2))), (3, ((0, 1), (0, 2), (1, 2))), (3, ((0, 1), (1, 2))),
                (3, ((0, 2),)), (3, ((0, 2), (1, 2))), (3, ((1, 2),)),
            ],
        )

    def test_one_to_five_places(self):
        for many, count in ((1, 1), (2, 2), (3, 8), (4, 64), (5, 1024)):
            told = all_webs(many)
            self.assertIs(type(told), list)
            self.assertEqual(len(told), count)
            self.assertTrue(all(map(is_plain_web, told)))
            self.assertEqual(told, sorted(set(plain_webs(many))))

    def test_more_than_five_places(self):
        check_refused(self, all_webs, BEYOND)

    def test_the_list_is_the_askers_own(self):
        for many in range(1, 6):
            told, again = all_webs(many), all_webs(many)
            self.assertIsNot(told, again)
            told.reverse()
            told.append(None)
            self.assertEqual(again, sorted(plain_webs(many)))
            self.assertEqual(all_webs(many), again)


class Parted(unittest.TestCase):
    """What kinds and wide kinds share."""

    def check_form(self, told):
        self.assertIs(type(told), list)
        for kind in told:
            self.assertIs(type(kind), list)
            self.assertTrue(all(map(is_plain_web, kind)))
            self.assertEqual(kind, sorted(set(kind)))
        self.assertEqual([kind[0] for kind in told], sorted(kind[0] for kind in told))

    def check_own(self, ask):
        for many in range(1, 5):
            told, again = ask(many), ask(many)
            lists = [told, again] + told + again
            self.assertEqual(len(set(map(id, lists))), len(lists))
            before = [list(kind) for kind in again]
            for kind in told:
                kind.clear()
            told.reverse()
            told.append(None)
            self.assertEqual(again, before)
            self.assertEqual(ask(many), before)


class Kinds(Parted):
    def test_by_hand(self):
        self.assertEqual(kinds(1), [[(1, ())]])
        self.assertEqual(kinds(2), [[(2, ())], [(2, ((0, 1),))]])
        self.assertEqual(
            kinds(3),
            [
                [(3, ())],
                [(3, ((0, 1),))],
                [
                    (3, ((0, 1), (0, 2))), (3, ((0, 1), (0, 2), (1, 2))), (3, ((0, 1), (1, 2))),
                    (3, ((0, 2), (1, 2))),
                ],
                [(3, ((0, 2),))],
                [(3, ((1, 2),))],
            ],
        )

    def test_one_to_four_places(self):
        for many in range(1, 5):
            told = kinds(many)
            self.check_form(told)
            self.assertEqual(told, plain_parted(many, plain_alike))

    def test_more_than_four_places(self):
        check_refused(self, kinds, (5,) + BEYOND)

    def test_all_lists_are_the_askers_own(self):
        self.check_own(kinds)


class WideKinds(Parted):
    def test_by_hand(self):
        self.assertEqual(wide_kinds(1), [[(1, ())]])
        self.assertEqual(wide_kinds(2), [[(2, ())], [(2, ((0, 1),))]])
        self.assertEqual(
            wide_kinds(3),
            [
                [(3, ())],
                [(3, ((0, 1),)), (3, ((0, 2),)), (3, ((1, 2),))],
                [
                    (3, ((0, 1), (0, 2))), (3, ((0, 1), (0, 2), (1, 2))), (3, ((0, 1), (1, 2))),
                    (3, ((0, 2), (1, 2))),
                ],
            ],
        )

    def test_one_to_four_places(self):
        for many in range(1, 5):
            told = wide_kinds(many)
            self.check_form(told)
            self.assertEqual(told, plain_parted(many, plain_wide))

    def test_more_than_four_places(self):
        check_refused(self, wide_kinds, (5,) + BEYOND)

    def test_all_lists_are_the_askers_own(self):
        self.check_own(wide_kinds)


class Counts(unittest.TestCase):
    def check(self, ask, kind_of, known):
        for many in range(1, 6):
            told = ask(many)
            self.assertTrue(is_number(told))
            self.assertEqual(told, known[many - 1])
            self.assertEqual(told, len(plain_parted(many, kind_of)))
            self.assertEqual(ask(many), told)

    def test_kinds(self):
        self.check(kinds_many, plain_alike, (1, 2, 5, 18, 93))

    def test_wide_kinds(self):
        self.check(wide_kinds_many, plain_wide, (1, 2, 3, 6, 11))

    def test_more_than_five_places(self):
        check_refused(self, kinds_many, BEYOND)
        check_refused(self, wide_kinds_many, BEYOND)


class LeastForm(unittest.TestCase):
    def test_by_hand(self):
        self.assertEqual(least_form(empty(1)), empty(1))
        self.assertEqual(least_form(empty(5)), empty(5))
        self.assertEqual(least_form((3, ((1, 2),))), (3, ((0, 1),)))
        self.assertEqual(least_form(path(3)), star(3))
        self.assertEqual(least_form((4, ((0, 3), (1, 2)))), (4, ((0, 1), (2, 3))))
        self.assertEqual(least_form(full(5)), star(5))

    def test_every_web_of_one_to_four_places(self):
        for web in small_webs(4):
            told = least_form(web)
            self.assertTrue(is_plain_web(told))
            self.assertEqual(told, min(plain_wide(web)), web)

    def test_webs_of_five_places(self):
        draw = random.Random(91)
        for kind in plain_parted(5, plain_wide):
            for web in [kind[0], kind[-1]] + draw.sample(kind, min(len(kind), 6)):
                self.assertEqual(least_form(web), kind[0], web)

    def test_the_same_just_where_webs_are_of_one_wide_kind(self):
        webs = [path(5), ring(5), star(5), full(5), empty(5)] + drawn_webs(92, 15, 3, 5)
        wide = {web: plain_wide(web) for web in webs}
        for one, other in itertools.product(webs, repeat=2):
            self.assertEqual(least_form(one) == least_form(other), other in wide[one], (one, other))

    def test_named_anew_and_turned_it_stays(self):
        for web in drawn_webs(93, 4, 4, 5):
            told = least_form(web)
            for other in sorted(plain_renamed(web))[:6] + sorted(plain_alike(web))[:6]:
                self.assertEqual(least_form(other), told)
            self.assertEqual(least_form(told), told)

    def test_more_than_five_places(self):
        for places in (6, 7, 8, 9):
            for make in (empty, path, star, full):
                with self.assertRaises(TooMany) as caught:
                    least_form(make(places))
                self.assertIs(type(caught.exception), TooMany)


if __name__ == "__main__":
    unittest.main()
