"""Points 91 and 92, and point 1 for them."""

import copy
import itertools
import random
import unittest

from nearturns.desk import Desk
from nearturns.errors import BadNote, NoName, NoPlaces, NoTie, TooMany, TurnError
from tests.helper import (
    drawn_webs, empty, full, odd_things, path, plain_alike, plain_along, plain_loose, plain_near, plain_pieces,
    plain_pivoted, plain_rank, plain_sides, plain_turned, plain_under, plain_way, plain_without, ring, small_webs, star,
    tied, turns_to,
)

ASKED = small_webs(3) + drawn_webs(151, 40, 4, 8) + [full(8), empty(8), path(8), star(6), ring(5)]

# Each line with names of webs that are kept, places that they have and texts that write: it is answered.
GOOD = (
    "web n 3: 0-1 1-2", "webs", "show a", "near a 1", "pieces a", "turn a 1 n", "pivot a 0 1 n", "leave a 1 n",
    "along a n 0 1 2", "along a n none", "alike a b", "way a b", "many a", "under a b", "rank a 0 2", "rank a none",
    "apart a b", "peeled a",
)
MAKING = ("web", "turn", "pivot", "leave", "along")


def text(web):
    return " ".join([f"{web[0]}:"] + [f"{low}-{high}" for low, high in web[1]])


def row(places):
    return " ".join(map(str, places)) or "none"


def desk_of(**webs):
    """A desk that keeps these webs by these names."""
    desk = Desk()
    for name, web in webs.items():
        desk.say(f"web {name} {text(web)}")
    return desk


def usual_desk():
    return desk_of(a=path(3), b=full(3), one=empty(1), six=path(6), seven=path(7), eight=full(8))


def kept(desk):
    """All that a desk keeps, as it tells it."""
    return {name: desk.say(f"show {name}") for name in desk.say("webs").split()}


class DeskCase(unittest.TestCase):
    def says(self, desk, line, answer):
        told = desk.say(line)
        self.assertIs(type(told), str)
        self.assertEqual(told, answer, line)

    def refused(self, desk, line, kind):
        """Refused with just this kind; and nothing that is kept changes."""
        before = kept(desk)
        with self.assertRaises(TurnError, msg=repr(line)) as caught:
            desk.say(line)
        self.assertIs(type(caught.exception), kind, line)
        self.assertEqual(kept(desk), before, line)


class Kept(DeskCase):
    def test_a_new_desk_keeps_nothing(self):
        desk = Desk()
        self.says(desk, "webs", "")
        self.refused(desk, "show a", NoName)

    def test_web_and_show(self):
        desk = Desk()
        for web in ASKED:
            self.says(desk, f"web it {text(web)}", "ok")
            self.says(desk, "show it", text(web))
        self.says(desk, "webs", "it")

    def test_names_are_told_in_the_order_of_texts(self):
        desk = Desk()
        for name in ("b", "ab", "a", "z", "abcdefgh", "zz", "aa", "web", "none"):
            self.says(desk, f"web {name} 1:", "ok")
        self.says(desk, "webs", "a aa ab abcdefgh b none web z zz")

    def test_the_elder_web_of_a_name_goes(self):
        desk = desk_of(a=path(3))
        self.says(desk, "web a 2: 0-1", "ok")
        self.says(desk, "webs", "a")
        self.says(desk, "show a", "2: 0-1")

    def test_names_that_are_words_of_lines(self):
        desk = Desk()
        for name in ("web", "webs", "show", "near", "turn", "ok", "yes", "never", "none"):
            self.says(desk, f"web {name} {text(path(3))}", "ok")
            self.says(desk, f"near {name} 1", "0 2")
            self.says(desk, f"turn {name} 1 {name}", "ok")
            self.says(desk, f"show {name}", text(full(3)))

    def test_two_desks_have_nothing_of_one_another(self):
        one, other = Desk(), Desk()
        one.say("web a 3: 0-1")
        self.says(other, "webs", "")
        self.refused(other, "show a", NoName)
        other.say("web a 2: 0-1")
        other.say("web b 1:")
        self.says(one, "show a", "3: 0-1")
        self.says(one, "webs", "a")
        self.says(other, "webs", "a b")
        self.says(Desk(), "webs", "")

    def test_only_the_new_name_comes_of_a_line_that_makes_a_web_and_nothing_of_another_line(self):
        for line in GOOD:
            desk = usual_desk()
            before = kept(desk)
            told = desk.say(line)
            self.assertEqual(desk.say(line), told, line)
            after = kept(desk)
            if line.split(" ")[0] in MAKING:
                self.assertIn("n", after, line)
                after.pop("n")
            self.assertEqual(after, before, line)


class Told(DeskCase):
    def test_near(self):
        for web in ASKED:
            desk = desk_of(a=web)
            for place in range(web[0]):
                self.says(desk, f"near a {place}", row(plain_near(web, place)))
        self.says(desk_of(a=empty(1)), "near a 0", "none")

    def test_pieces(self):
        self.says(desk_of(a=(5, ((0, 3), (1, 2)))), "pieces a", "0 3 / 1 2 / 4")
        for web in ASKED:
            self.says(desk_of(a=web), "pieces a", " / ".join(map(row, plain_pieces(web))))

    def test_alike(self):
        self.says(desk_of(a=path(3), b=full(3)), "alike a b", "yes")
        self.says(desk_of(a=path(3), b=empty(3)), "alike a b", "no")
        self.says(desk_of(a=path(3), b=path(2)), "alike a b", "no")
        self.says(desk_of(a=path(6)), "alike a a", "yes")
        for one in small_webs(3):
            alike = plain_alike(one)
            for other in small_webs(3):
                self.says(desk_of(a=one, b=other), "alike a b", "yes" if other in alike else "no")

    def test_way(self):
        self.says(desk_of(a=path(3), b=full(3)), "way a b", "1")
        self.says(desk_of(a=path(3), b=empty(3)), "way a b", "never")
        self.says(desk_of(a=path(3), b=path(2)), "way a b", "never")
        self.says(desk_of(a=path(3), b=path(3)), "way a b", "none")
        self.says(desk_of(a=path(6)), "way a a", "none")
        draw = random.Random(152)
        for other in drawn_webs(153, 16, 3, 6):
            turns = turns_to(other)
            for one in draw.sample(sorted(turns), min(len(turns), 4)):
                self.says(desk_of(a=one, b=other), "way a b", row(plain_way(one, turns)))

    def test_the_way_is_from_the_first_to_the_second(self):
        desk = desk_of(a=path(4), b=star(4), c=plain_along(path(4), (1, 2, 3)))
        self.says(desk, "way a c", row(plain_way(path(4), turns_to(plain_along(path(4), (1, 2, 3))))))
        self.says(desk, "way c a", row(plain_way(plain_along(path(4), (1, 2, 3)), turns_to(path(4)))))
        self.assertNotEqual(desk.say("way a c"), desk.say("way c a"))

    def test_many(self):
        self.says(desk_of(a=empty(1)), "many a", "1")
        self.says(desk_of(a=path(3)), "many a", "4")
        for web in drawn_webs(154, 12, 1, 6) + [path(6), star(6)]:
            self.says(desk_of(a=web), "many a", str(len(plain_alike(web))))

    def test_under(self):
        desk = desk_of(a=path(4), b=path(3), c=empty(4))
        self.says(desk, "under a b", "yes")
        self.says(desk, "under b a", "no")
        self.says(desk, "under a a", "yes")
        self.says(desk, "under a c", "no")
        self.says(desk, "under c b", "no")
        for web in drawn_webs(155, 12, 3, 6):
            under = plain_under(web)
            for small in small_webs(3) + drawn_webs(156, 6, 4, 5):
                self.says(desk_of(a=web, b=small), "under a b", "yes" if small in under else "no")

    def test_rank(self):
        self.says(desk_of(a=path(4)), "rank a 0 2", "2")
        self.says(desk_of(a=path(4)), "rank a none", "0")
        self.says(desk_of(a=path(4)), "rank a 0 1 2 3", "0")
        for web in small_webs(3) + drawn_webs(157, 12, 4, 6):
            desk = desk_of(a=web)
            for side in plain_sides(web[0]):
                self.says(desk, f"rank a {row(side)}", str(plain_rank(web, side)))

    def test_apart(self):
        self.says(desk_of(a=path(4), b=star(4)), "apart a b", "0 2")
        self.says(desk_of(a=path(3), b=full(3)), "apart a b", "never")
        self.says(desk_of(a=path(7)), "apart a a", "never")
        self.says(desk_of(a=path(8), b=empty(8)), "apart a b", "0")
        webs = drawn_webs(158, 24, 4, 4)
        for one, other in zip(webs, webs[1:]):
            unlike = [side for side in plain_sides(4) if plain_rank(one, side) != plain_rank(other, side)]
            self.says(desk_of(a=one, b=other), "apart a b", row(unlike[0]) if unlike else "never")

    def test_peeled(self):
        self.says(desk_of(a=path(4)), "peeled a", "0 1 2 / 3")
        self.says(desk_of(a=ring(5)), "peeled a", "none / 0 1 2 3 4")
        self.says(desk_of(a=empty(1)), "peeled a", "none / 0")
        for web in ASKED:
            gone, left = [], list(range(web[0]))
            while plain_loose(web, left):
                gone.append(plain_loose(web, left)[0])
                left.remove(gone[-1])
            self.says(desk_of(a=web), "peeled a", f"{row(gone)} / {row(left)}")


class Made(DeskCase):
    def check(self, web, line, made):
        """The line, with A for the web's name and N for the new one: another name, an elder one, the web's own."""
        desk = desk_of(a=web, old=empty(2))
        for new in ("n", "old"):
            self.says(desk, line.replace("A", "a").replace("N", new), "ok")
            self.says(desk, f"show {new}", text(made))
            self.says(desk, "show a", text(web))
        self.says(desk, "webs", "a n old")
        self.says(desk, line.replace("A", "a").replace("N", "a"), "ok")
        self.assertEqual(kept(desk), {"a": text(made), "n": text(made), "old": text(made)})

    def test_turn(self):
        for web in ASKED:
            for place in range(web[0]):
                self.check(web, f"turn A {place} N", plain_turned(web, place))

    def test_pivot(self):
        for web in ASKED:
            for low, high in web[1][:6]:
                self.check(web, f"pivot A {low} {high} N", plain_pivoted(web, low, high))
                self.check(web, f"pivot A {high} {low} N", plain_pivoted(web, low, high))

    def test_leave(self):
        for web in ASKED:
            for place in range(web[0] if web[0] > 1 else 0):
                self.check(web, f"leave A {place} N", plain_without(web, place))

    def test_along(self):
        draw = random.Random(159)
        for web in ASKED:
            for many in (0, 1, 2, 7, 40):
                turns = [draw.randrange(web[0]) for turn in range(many)]
                self.check(web, f"along A N {row(turns)}", plain_along(web, turns))

    def test_what_is_made_is_used(self):
        desk = Desk()
        lines = [
            ("web a 4: 0-1 1-2 2-3", "ok"), ("turn a 1 b", "ok"), ("way a b", "1"), ("way b a", "1"),
            ("leave b 1 a", "ok"), ("show a", "3: 0-1 1-2"), ("under b a", "yes"), ("along a a 1", "ok"),
            ("show a", "3: 0-1 0-2 1-2"), ("webs", "a b"), ("show b", "4: 0-1 0-2 1-2 2-3"),
        ]
        for line, answer in lines:
            self.says(desk, line, answer)


class NoLine(DeskCase):
    def no(self, *lines):
        desk = usual_desk()
        for line in lines:
            self.refused(desk, line, BadNote)

    def test_good_lines_are_none_of_these(self):
        for line in GOOD:
            self.assertIs(type(usual_desk().say(line)), str, line)

    def test_what_is_no_text(self):
        self.no(*[thing for thing in odd_things() if not isinstance(thing, str)])
        self.no(b"webs", ["webs"], ("webs",), {"webs": "webs"}, ["show", "a"], ("show", "a"))

    def test_texts_of_all_kinds(self):
        self.no(*[thing for thing in odd_things() if isinstance(thing, str)])

    def test_other_words(self):
        self.no("", " ", "ok", "a", "Webs", "WEBS", "shows a", "Show a", "turned a 1 n", "paper a", "kinds 3", "~")

    def test_another_count_of_words(self):
        for line in GOOD:
            words = line.split(" ")
            if words[0] not in ("web", "along", "rank"):
                self.no(line + " a", line + " 1", line + " a a")
            for many in range(1, len(words)):
                # What is shorter may be a line still, where a text of several words is its end.
                shorter = " ".join(words[:many])
                if many < 3 or words[0] not in ("web", "along", "rank"):
                    self.no(shorter)
        self.no("web", "web n", "along", "along a", "along a n", "rank", "rank a", "webs a", "show", "peeled")

    def test_blanks_too_much_or_too_few(self):
        for line in GOOD:
            self.no(" " + line, line + " ", line + "\n", "\n" + line, line.replace(" ", "\t", 1) + "\t")
            if " " in line:
                self.no(line.replace(" ", "  ", 1), line.replace(" ", "", 1), line.replace(" ", "  "))
                head, tail = line.rsplit(" ", 1)
                self.no(f"{head}  {tail}")

    def test_words_that_are_no_names(self):
        wrong = (
            "", "A", "aB", "a1", "1", "a-b", "a_b", "a:", "abcdefghi", "abcdefghijkl", "~", "a.", "\u00e9", "a\u00df",
        )
        for name in wrong:
            self.no(
                f"web {name} 1:", f"show {name}", f"near {name} 0", f"pieces {name}", f"turn {name} 1 n",
                f"turn a 1 {name}", f"pivot {name} 0 1 n", f"pivot a 0 1 {name}", f"leave {name} 1 n",
                f"leave a 1 {name}", f"along {name} n 0", f"along a {name} 0", f"alike {name} a", f"alike a {name}",
                f"way {name} a", f"way a {name}", f"many {name}", f"under {name} a", f"under a {name}",
                f"rank {name} 0", f"apart {name} a", f"apart a {name}", f"peeled {name}",
            )

    def test_names_of_eight_letters_and_of_nine(self):
        desk = Desk()
        self.says(desk, "web abcdefgh 1:", "ok")
        self.says(desk, "turn abcdefgh 0 zzzzzzzz", "ok")
        self.says(desk, "webs", "abcdefgh zzzzzzzz")
        self.refused(desk, "web abcdefghi 1:", BadNote)
        self.refused(desk, "show abcdefghi", BadNote)
        self.refused(desk, "turn abcdefgh 0 zzzzzzzzz", BadNote)

    def test_words_that_are_no_numbers_from_0_to_7(self):
        for number in ("8", "9", "10", "00", "01", "-1", "+1", "1.", "x", "", "none", "one", "\u0661", "\u00b2", "0-1"):
            self.no(
                f"near eight {number}", f"turn eight {number} n", f"leave eight {number} n",
                f"pivot eight {number} 1 n", f"pivot eight 1 {number} n",
            )

    def test_texts_that_write_none(self):
        for words in ("", "3", "3: 1-0", "3: 0-3", "3:  0-1", " 3:", "3: ", "9:", "0:", "none", "3: 0-1 0-1", "a", "a 3:"):
            self.no(f"web a {words}", f"web n {words}")
        for words in ("", "8", "0 8", "00", "0  1", " 0", "0 ", "0,1", "x", "none 0", "0 none", "a", row([0] * 41)):
            self.no(f"along a n {words}", f"along a a {words}", f"rank a {words}")


class InOrder(DeskCase):
    def test_names_by_which_none_is_kept(self):
        desk = usual_desk()
        for line in (
            "show x", "near x 0", "pieces x", "turn x 0 n", "turn x 0 x", "pivot x 0 1 n", "leave x 0 n", "along x n 0",
            "along x n none", "alike x a", "alike a x", "alike x x", "way x a", "way a x", "many x", "under x a",
            "under a x", "rank x 0", "rank x none", "apart x a", "apart a x", "peeled x", "show abcdefgh",
        ):
            self.refused(desk, line, NoName)

    def test_no_such_line_ahead_of_no_name(self):
        desk = usual_desk()
        for line in (
            "show x x", "near x 8", "near x", "turn x 8 n", "turn x 0 N", "turn x 0", "pivot x 0 9 n", "pivot x 0 1 N",
            "leave x 01 n", "along x n 8", "along x N 0", "along x n", "alike x A", "alike A x", "way x a a",
            "under x abcdefghi", "rank x 8", "rank x 0  1", "rank x", "apart X x", f"rank x {row([0] * 41)}",
            f"along x n {row([0] * 41)}", "web x 3: 1-0",
        ):
            self.refused(desk, line, BadNote)

    def test_no_name_ahead_of_a_place_that_the_web_lacks_and_a_side_that_does_not_rise(self):
        desk = usual_desk()
        for line in ("near x 7", "turn x 7 n", "pivot x 7 7 n", "leave x 7 n", "along x n 7", "rank x 1 0", "rank x 7 7"):
            self.refused(desk, line, NoName)

    def test_no_name_ahead_of_what_is_asked(self):
        desk = usual_desk()
        for line in ("alike seven x", "alike x seven", "way eight x", "under seven x", "under x seven", "apart one x"):
            self.refused(desk, line, NoName)

    def test_a_place_that_the_web_lacks(self):
        desk = usual_desk()
        for place in range(3, 8):
            for line in (
                f"near a {place}", f"turn a {place} n", f"turn a {place} a", f"pivot a {place} 0 n",
                f"pivot a 0 {place} n", f"pivot a {place} {place} n", f"leave a {place} n", f"along a n {place}",
                f"along a n 0 1 {place} 1", f"rank a {place}", f"rank a 0 {place}", f"rank a 0 1 2 {place}",
            ):
                self.refused(desk, line, BadNote)

    def test_the_last_place_of_each_web(self):
        for places in range(1, 9):
            desk = desk_of(a=empty(places))
            self.says(desk, f"near a {places - 1}", "none")
            self.says(desk, f"rank a {places - 1}", "0")
            if places < 8:
                self.refused(desk, f"near a {places}", BadNote)
                self.refused(desk, f"rank a {places}", BadNote)

    def test_a_side_that_does_not_rise(self):
        desk = usual_desk()
        for side in ("1 0", "0 0", "2 1 0", "0 2 1", "0 1 1", "0 0 1", row([0] * 40)):
            self.refused(desk, f"rank a {side}", BadNote)
            self.refused(desk, f"rank eight {side}", BadNote)
        # A row need not rise.
        self.says(desk, "along a n 1 0 0 2 1", "ok")

    def test_a_place_that_the_web_lacks_ahead_of_what_is_asked(self):
        desk = usual_desk()
        self.refused(desk, "leave one 1 n", BadNote)
        self.refused(desk, "leave one 7 one", BadNote)
        self.refused(desk, "pivot a 0 3 n", BadNote)
        self.refused(desk, "pivot a 7 7 n", BadNote)

    def test_no_tie(self):
        desk = usual_desk()
        for line in ("pivot a 0 2 n", "pivot a 2 0 n", "pivot a 1 1 n", "pivot a 0 2 a", "pivot one 0 0 n"):
            self.refused(desk, line, NoTie)
        for web in small_webs(3):
            for low, high in itertools.product(range(web[0]), repeat=2):
                if not tied(web, low, high):
                    self.refused(desk_of(a=web), f"pivot a {low} {high} a", NoTie)

    def test_no_places(self):
        desk = usual_desk()
        for line in ("leave one 0 n", "leave one 0 one", "apart a one", "apart one a", "apart seven eight"):
            self.refused(desk, line, NoPlaces)

    def test_too_many(self):
        desk = usual_desk()
        for line in (
            "alike seven a", "alike a seven", "alike eight eight", "way seven a", "way a eight", "way seven seven",
            "many seven", "many eight", "under seven a", "under eight eight", "under seven eight",
        ):
            self.refused(desk, line, TooMany)
        # Only the web under which is looked is too large.
        self.says(desk, "under a seven", "no")
        self.says(desk, "under six eight", "no")
        self.says(desk, "many six", str(len(plain_alike(path(6)))))

    def test_what_is_refused_keeps_no_new_name(self):
        desk = usual_desk()
        for line in ("turn a 3 n", "pivot a 0 2 n", "leave one 0 n", "along a n 0 3", "turn x 0 n", "web n 3: 1-0"):
            with self.assertRaises(TurnError):
                desk.say(line)
            self.refused(desk, "show n", NoName)

    def test_nothing_that_is_handed_in_is_changed_or_kept(self):
        desk = usual_desk()
        things = [thing for thing in odd_things() if not isinstance(thing, str)] + [["web", "n", "1:"]]
        before = copy.deepcopy(things)
        for thing in things:
            self.refused(desk, thing, BadNote)
        self.assertEqual(repr(things), repr(before))


if __name__ == "__main__":
    unittest.main()
