"""Point 63, and point 1 for it."""

import itertools
import random
import unittest

from nearturns.errors import TooMany
from nearturns.trees import is_tree, trees_alike
from tests.helper import (
    all_webs, drawn_webs, empty, full, is_plain_web, path, plain_alike, plain_along, plain_named, plain_pieces,
    plain_renamed, ring, small_webs, star,
)


def drawn_tree(draw, places):
    """Each place but the first tied to one ahead of it, then named anew."""
    ties = [(draw.randrange(place), place) for place in range(1, places)]
    order = draw.sample(range(places), places)
    return plain_named((places, tuple(sorted(ties))), order)


def drawn_trees(seed, many, most):
    draw = random.Random(seed)
    return [drawn_tree(draw, 1 + turn % most) for turn in range(many)]


def plain_tree(web):
    """One piece, and one tie fewer than places."""
    return len(plain_pieces(web)) == 1 and len(web[1]) == web[0] - 1


class IsTree(unittest.TestCase):
    def test_by_hand(self):
        self.assertIs(is_tree(empty(1)), True)
        self.assertIs(is_tree(full(2)), True)
        self.assertIs(is_tree(empty(2)), False)
        self.assertIs(is_tree(full(3)), False)
        # One tie fewer than places, but two pieces, one of them a ring.
        self.assertIs(is_tree((4, ((0, 1), (0, 2), (1, 2)))), False)
        # Two pieces without rings.
        self.assertIs(is_tree((4, ((0, 1), (2, 3)))), False)
        # One piece with a tie more.
        self.assertIs(is_tree((4, ((0, 1), (0, 2), (1, 2), (2, 3)))), False)

    def test_webs_of_each_size(self):
        for places in range(1, 9):
            self.assertIs(is_tree(path(places)), True)
            self.assertIs(is_tree(star(places)), True)
            self.assertIs(is_tree(empty(places)), places == 1)
            self.assertIs(is_tree(full(places)), places <= 2)
            if places > 2:
                self.assertIs(is_tree(ring(places)), False)

    def test_every_small_web_and_drawn_ones(self):
        for web in small_webs(5) + drawn_webs(101, 120, 6, 8):
            self.assertIs(is_tree(web), plain_tree(web), web)

    def test_there_are_as_many_trees_as_known(self):
        for places, count in ((1, 1), (2, 1), (3, 3), (4, 16), (5, 125)):
            self.assertEqual(sum(map(is_tree, all_webs(places))), count)

    def test_drawn_trees_and_trees_with_a_tie_less_or_another(self):
        for web in drawn_trees(102, 60, 8):
            self.assertIs(is_tree(web), True, web)
            for tie in web[1]:
                left = tuple(known for known in web[1] if known != tie)
                self.assertIs(is_tree((web[0], left)), False)
                for other in full(web[0])[1]:
                    changed = (web[0], tuple(sorted({*left, other})))
                    self.assertIs(is_tree(changed), plain_tree(changed), changed)


class TreesAlike(unittest.TestCase):
    def check(self, web):
        told = trees_alike(web)
        self.assertIs(type(told), list)
        self.assertTrue(all(map(is_plain_web, told)), web)
        self.assertEqual(told, sorted(filter(plain_tree, plain_alike(web))), web)

    def test_by_hand(self):
        self.assertEqual(trees_alike(empty(1)), [empty(1)])
        self.assertEqual(trees_alike(full(2)), [full(2)])
        self.assertEqual(trees_alike(full(3)), [(3, ((0, 1), (0, 2))), (3, ((0, 1), (1, 2))), (3, ((0, 2), (1, 2)))])
        self.assertEqual(len(trees_alike(full(6))), 6)

    def test_none(self):
        for web in (empty(2), empty(6), (4, ((0, 1), (2, 3))), ring(5), (4, ((0, 1), (0, 2), (1, 2)))):
            told = trees_alike(web)
            self.assertIs(type(told), list)
            self.assertEqual(told, [])

    def test_every_small_web(self):
        for web in small_webs(4):
            self.check(web)

    def test_webs_of_five_and_six_places(self):
        draw = random.Random(103)
        trees = [web for web in drawn_trees(104, 24, 6) if web[0] > 4]
        turns = [plain_along(web, [draw.randrange(web[0]) for turn in range(9)]) for web in trees]
        for web in trees + turns + [path(6), ring(6), star(6), full(6)] + drawn_webs(105, 10, 5, 6):
            self.check(web)

    def test_a_tree_is_among_its_own(self):
        for web in drawn_trees(106, 18, 6):
            self.assertIn(web, trees_alike(web))

    def test_of_two_alike_trees_one_is_the_other_named_anew(self):
        for web in [path(6), star(6), path(5)] + drawn_trees(107, 18, 6):
            self.assertLessEqual(set(trees_alike(web)), plain_renamed(web))

    def test_alike_webs_have_the_same_list(self):
        for web in [path(4), star(5)]:
            told = trees_alike(web)
            for other in plain_alike(web):
                self.assertEqual(trees_alike(other), told)

    def test_the_list_is_the_askers_own(self):
        for web in (path(4), ring(5)):
            told, again = trees_alike(web), trees_alike(web)
            self.assertIsNot(told, again)
            before = list(again)
            told.reverse()
            told.append(None)
            self.assertEqual(again, before)
            self.assertEqual(trees_alike(web), before)

    def test_more_than_six_places(self):
        for places, make in itertools.product((7, 8, 9), (empty, path, star, full, ring)):
            with self.assertRaises(TooMany) as caught:
                trees_alike(make(places))
            self.assertIs(type(caught.exception), TooMany)


if __name__ == "__main__":
    unittest.main()
