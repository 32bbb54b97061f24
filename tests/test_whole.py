"""Point 1 over the whole program, and the interface: every name that it lists, and what holds of all of them."""

import copy
import importlib
import inspect
import unittest

from nearturns.cuts import all_ranks, cut_rank, first_apart, rank_counts
from nearturns.desk import Desk
from nearturns.errors import BadNote, NoName, NoPlaces, NoTie, TooMany, TurnError
from nearturns.kinds import all_webs, kinds, kinds_many, least_form, wide_kinds, wide_kinds_many
from nearturns.lesser import all_under, leads_under, left_out, lies_under
from nearturns.notes import row_read, row_text, web_read, web_text
from nearturns.papers import about, behind, is_paper, row_paper, turn_paper
from nearturns.peeled import can_go, close_places, peeled, peels
from nearturns.pivots import all_pivots, by_pivots, pivoted, pivoted_along, two_sides
from nearturns.trees import is_tree, trees_alike
from nearturns.ways import all_alike, are_alike, leads, way
from nearturns.webs import is_web, named, near, pieces, turned, turned_along
from tests.helper import empty, full, odd_things, path, ring, star

INTERFACE = {
    "webs": {
        "is_web": ["thing"], "near": ["web", "place"], "turned": ["web", "place"], "turned_along": ["web", "row"],
        "named": ["web", "order"], "pieces": ["web"],
    },
    "cuts": {
        "cut_rank": ["web", "side"], "all_ranks": ["web"], "rank_counts": ["web"], "first_apart": ["one", "other"],
    },
    "ways": {
        "leads": ["one", "other", "thing"], "all_alike": ["web"], "are_alike": ["one", "other"],
        "way": ["one", "other"],
    },
    "pivots": {
        "pivoted": ["web", "one", "other"], "pivoted_along": ["web", "row"], "all_pivots": ["web"],
        "by_pivots": ["one", "other"], "two_sides": ["web"],
    },
    "papers": {
        "is_paper": ["one", "other", "thing"], "turn_paper": ["web", "place"], "behind": ["paper", "later"],
        "row_paper": ["web", "row"], "about": ["paper"],
    },
    "kinds": {
        "all_webs": ["many"], "kinds": ["many"], "wide_kinds": ["many"], "kinds_many": ["many"],
        "wide_kinds_many": ["many"], "least_form": ["web"],
    },
    "trees": {"is_tree": ["web"], "trees_alike": ["web"]},
    "lesser": {
        "left_out": ["web", "place"], "lies_under": ["small", "web"], "all_under": ["web", "places"],
        "leads_under": ["web", "small", "thing"],
    },
    "peeled": {"close_places": ["web"], "can_go": ["web", "place"], "peeled": ["web"], "peels": ["web", "thing"]},
    "notes": {"web_text": ["web"], "row_text": ["row"], "web_read": ["text"], "row_read": ["text"]},
}

# Each function that tells a list, and what it is asked: points 12, 21, 31, 41, 60, 61, 63, 72 and 80.
LISTS = [
    (pieces, empty(1)), (pieces, (5, ((0, 3), (1, 2)))), (pieces, full(8)),
    (all_ranks, empty(1)), (all_ranks, path(4)), (all_ranks, full(8)),
    (all_alike, empty(1)), (all_alike, path(4)), (all_alike, ring(6)),
    (all_pivots, empty(1)), (all_pivots, path(4)), (all_pivots, ring(6)),
    (all_webs, 1), (all_webs, 3), (all_webs, 5),
    (kinds, 1), (kinds, 3), (kinds, 4),
    (wide_kinds, 1), (wide_kinds, 3), (wide_kinds, 4),
    (trees_alike, empty(1)), (trees_alike, ring(5)), (trees_alike, path(6)),
    (all_under, empty(1), 1), (all_under, path(4), 4), (all_under, path(4), 2), (all_under, ring(6), 5),
    (close_places, empty(1)), (close_places, path(4)), (close_places, full(8)),
]

# Each kind of refusal that the document names, one behind the other.
REFUSALS = [
    (NoPlaces, first_apart, path(3), path(4)),
    (TooMany, all_alike, path(7)), (TooMany, are_alike, path(7), path(3)), (TooMany, are_alike, path(3), path(8)),
    (TooMany, way, path(7), path(3)), (TooMany, way, path(3), path(8)),
    (NoTie, pivoted, path(3), 0, 2), (NoTie, pivoted, path(3), 0, None), (NoTie, pivoted, path(3), True, 0),
    (NoTie, pivoted_along, path(3), ((0, 1), (1, 2))),
    (TooMany, all_pivots, path(7)), (TooMany, by_pivots, path(7), path(3)), (TooMany, by_pivots, path(3), path(8)),
    (TooMany, all_webs, 6), (TooMany, kinds, 5), (TooMany, wide_kinds, 5),
    (TooMany, kinds_many, 6), (TooMany, wide_kinds_many, 6), (TooMany, least_form, path(6)),
    (TooMany, trees_alike, path(7)),
    (NoPlaces, left_out, empty(1), 0),
    (TooMany, lies_under, path(3), path(7)), (TooMany, all_under, path(7), 3), (TooMany, all_under, path(7), 0),
    (TooMany, all_under, path(8), 9), (NoPlaces, all_under, path(6), 0), (NoPlaces, all_under, path(6), 7),
    (NoPlaces, all_under, path(6), -1),
    (BadNote, web_read, "3"), (BadNote, web_read, None), (BadNote, row_read, "8"), (BadNote, row_read, [0]),
    (BadNote, row_read, " ".join("0" * 41)), (BadNote, web_read, True), (BadNote, row_read, True),
]

# Lines that a desk with a path of three places, one of one and one of seven refuses.
REFUSED_LINES = [
    (BadNote, None), (BadNote, ["webs"]), (BadNote, ""), (BadNote, "show A"), (BadNote, "near a 8"),
    (BadNote, "web n 3: 1-0"), (BadNote, "along a n 8"), (BadNote, "show a a"),
    (NoName, "show x"), (NoName, "near x 7"), (NoName, "rank x 1 0"), (NoName, "alike x seven"),
    (BadNote, "near a 3"), (BadNote, "rank a 1 0"), (BadNote, "along a n 3"), (BadNote, "leave one 1 n"),
    (NoTie, "pivot a 0 2 n"), (NoPlaces, "leave one 0 n"), (NoPlaces, "apart a one"), (TooMany, "many seven"),
    (TooMany, "alike a seven"), (TooMany, "under seven a"),
]

# All else that is told, asked once of each.
OTHERS = [
    (is_web, path(3)), (near, path(3), 1), (turned, path(3), 1), (turned_along, path(3), (1, 0)),
    (named, path(3), (1, 0, 2)), (cut_rank, path(3), (0, 2)), (rank_counts, path(4)), (first_apart, path(4), star(4)),
    (leads, path(3), full(3), (1,)), (are_alike, path(3), full(3)), (way, path(3), full(3)), (pivoted, path(3), 0, 1),
    (pivoted_along, path(3), ((0, 1), (0, 2))), (by_pivots, path(3), full(3)), (two_sides, path(3)),
    (is_paper, path(3), full(3), ((1, 1, 0, 1), (1, 0, 1, 1), (1, 1, 0, 1))), (turn_paper, path(3), 1),
    (behind, ((1, 0, 1, 1),), ((1, 1, 0, 1),)), (row_paper, path(3), (1, 0)), (about, ((1, 0, 1, 1),)),
    (kinds_many, 4), (wide_kinds_many, 4), (least_form, full(3)), (is_tree, path(3)), (left_out, path(3), 1),
    (lies_under, path(3), path(4)), (leads_under, path(3), full(3), (("turn", 1),)), (can_go, path(3), 1),
    (peeled, path(4)), (peels, path(3), (0, 1)), (web_text, path(3)), (row_text, (1, 0)), (web_read, "3: 0-1"),
    (row_read, "1 0"),
]


def asked(question):
    ask, *things = question
    return ask(*things)


def lists_within(thing):
    """The lists and dicts of a told thing, itself too, each as often as it is there."""
    if isinstance(thing, dict):
        return [thing] + [known for inner in thing.values() for known in lists_within(inner)]
    if isinstance(thing, (list, tuple)):
        inner = [known for part in thing for known in lists_within(part)]
        return ([thing] if isinstance(thing, list) else []) + inner
    return []


def spoil(thing):
    """Change a told list, and the lists within it."""
    for known in reversed(lists_within(thing)):
        known.reverse()
        known.append(None)
        known[0] = "other"
    thing.clear()


class Interface(unittest.TestCase):
    def test_each_function_has_its_name_and_arguments(self):
        for module, functions in INTERFACE.items():
            found = importlib.import_module(f"nearturns.{module}")
            for name, arguments in functions.items():
                function = getattr(found, name)
                self.assertTrue(inspect.isfunction(function), name)
                self.assertEqual(list(inspect.signature(function).parameters), arguments, name)

    def test_say_is_defined_in_the_class_itself(self):
        self.assertIn("say", vars(Desk))
        self.assertEqual(list(inspect.signature(Desk.say).parameters), ["self", "line"])
        self.assertEqual(list(inspect.signature(Desk).parameters), [])


class AskersOwn(unittest.TestCase):
    def test_lists_that_are_told_are_changed_and_the_same_is_told_again(self):
        for question in LISTS:
            told, again = asked(question), asked(question)
            self.assertIs(type(told), list)
            before = copy.deepcopy(told)
            spoil(told)
            self.assertEqual(again, before, question)
            self.assertEqual(asked(question), before, question)

    def test_no_two_lists_are_one(self):
        for question in LISTS:
            lists = lists_within([asked(question), asked(question)])
            self.assertEqual(len({id(known) for known in lists}), len(lists), question)

    def test_the_lists_within_are_lists_only_where_they_are_told_so(self):
        for question in LISTS:
            within = len(lists_within(asked(question))) - 1
            self.assertEqual(within > 0, question[0] in (kinds, wide_kinds), question)

    def test_all_else_that_is_told_has_no_list(self):
        for question in OTHERS:
            self.assertEqual(lists_within(asked(question)), [], question)


class AskedAgain(unittest.TestCase):
    def test_the_same_is_told_whatever_is_asked_between(self):
        questions = LISTS + OTHERS
        first = [asked(question) for question in questions]
        for question, told in reversed(list(zip(questions, first))):
            self.assertEqual(asked(question), told, question)

    def test_each_function_of_the_interface_is_asked(self):
        names = {question[0].__name__ for question in LISTS + OTHERS}
        self.assertEqual(names, {name for functions in INTERFACE.values() for name in functions})


class Refusals(unittest.TestCase):
    def check(self, kind, ask, *things):
        with self.assertRaises(TurnError, msg=(ask, things)) as caught:
            ask(*things)
        self.assertIs(type(caught.exception), kind, things)
        self.assertEqual(len(caught.exception.args), 1, things)
        self.assertIs(type(caught.exception.args[0]), str, things)
        self.assertTrue(caught.exception.args[0], things)

    def test_each_refusal_is_made_with_a_text(self):
        for kind, ask, *things in REFUSALS:
            self.check(kind, ask, *things)
            self.check(kind, ask, *things)

    def test_each_refusal_of_a_desk_is_made_with_a_text(self):
        desk = Desk()
        for line in ("web a 3: 0-1 1-2", "web one 1:", "web seven 7: 0-1"):
            desk.say(line)
        for kind, line in REFUSED_LINES:
            self.check(kind, desk.say, line)
            self.check(kind, desk.say, line)
        self.assertEqual(desk.say("webs"), "a one seven")


class Truths(unittest.TestCase):
    def test_true_and_false_are_no_whole_numbers(self):
        self.assertIs(is_web((True, ())), False)
        self.assertIs(is_web((2, ((False, True),))), False)
        self.assertIs(leads(path(3), full(3), (True,)), False)
        self.assertIs(leads_under(path(3), full(3), (("turn", True),)), False)
        self.assertIs(peels(full(2), (True,)), False)
        paper = turn_paper(path(3), 1)
        self.assertIs(is_paper(path(3), full(3), paper), True)
        self.assertIs(is_paper(path(3), full(3), tuple(tuple(map(bool, four)) for four in paper)), False)


class HandedIn(unittest.TestCase):
    def test_nothing_that_is_handed_in_is_changed_or_kept(self):
        questions = [
            lambda thing: is_web(thing), lambda thing: leads(path(3), full(3), thing),
            lambda thing: is_paper(path(3), full(3), thing), lambda thing: leads_under(path(3), full(3), thing),
            lambda thing: peels(path(3), thing),
        ]
        for question in questions:
            things = odd_things()
            before = repr(things)
            for thing in things:
                self.assertIs(question(thing), False, thing)
            self.assertEqual(repr(things), before)
            for thing in things:
                if isinstance(thing, (list, dict)):
                    thing.clear()
                self.assertIs(question(thing), False, thing)


if __name__ == "__main__":
    unittest.main()
