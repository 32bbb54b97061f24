"""Point 90, and point 1 for it."""

import copy
import itertools
import random
import unittest

from nearturns.errors import BadNote
from nearturns.notes import row_read, row_text, web_read, web_text
from tests.helper import all_webs, drawn_webs, empty, full, is_number, is_plain_web, odd_things, path, ring, small_webs

ASKED = small_webs(4) + drawn_webs(141, 200, 5, 8) + [full(8), empty(8), path(8), ring(8)]
WEB_TEXTS = {
    "1:": (1, ()),
    "8:": (8, ()),
    "2: 0-1": (2, ((0, 1),)),
    "3: 0-1 1-2": (3, ((0, 1), (1, 2))),
    "3: 0-2": (3, ((0, 2),)),
    "8: 0-7 1-2 6-7": (8, ((0, 7), (1, 2), (6, 7))),
}
ROW_TEXTS = {
    "none": (),
    "0": (0,),
    "7": (7,),
    "0 0": (0, 0),
    "3 1 2": (3, 1, 2),
    "7 6 5 4 3 2 1 0": (7, 6, 5, 4, 3, 2, 1, 0),
}
# Signs of which near misses are made; some that Python takes for figures or blanks, too.
SIGNS = "0123456789:- ,.+_/~!nN\t\n\u00a0\u0663\uff13"


def near_misses(text):
    """Texts that come of a text by one sign put in, taken out, or changed; the text itself is none of them."""
    made = set()
    for at in range(len(text) + 1):
        made.add(text[:at] + text[at + 1:])
        for sign in SIGNS:
            made.add(text[:at] + sign + text[at:])
            made.add(text[:at] + sign + text[at + 1:])
    return sorted(made - {text})


def no_texts():
    """Things of all kinds that are no texts."""
    odd = [thing for thing in odd_things() if not isinstance(thing, str)]
    return odd + [b"1:", b"none", ("1:",), ["1:"], {"1:": "1:"}, ("none",), (0, 1), (3, ((0, 1),)), ["0", " ", "1"]]


class Refused(unittest.TestCase):
    def refused(self, read, thing):
        with self.assertRaises(BadNote, msg=repr(thing)) as caught:
            read(thing)
        self.assertIs(type(caught.exception), BadNote)


class WebText(unittest.TestCase):
    def test_by_hand(self):
        for text, web in WEB_TEXTS.items():
            self.assertEqual(web_text(web), text)
        self.assertEqual(web_text(full(4)), "4: 0-1 0-2 0-3 1-2 1-3 2-3")

    def test_every_small_web_and_drawn_ones(self):
        for web in ASKED:
            told = web_text(web)
            self.assertIs(type(told), str)
            self.assertEqual(told, " ".join([f"{web[0]}:"] + [f"{low}-{high}" for low, high in web[1]]))


class RowText(unittest.TestCase):
    def test_by_hand(self):
        for text, row in ROW_TEXTS.items():
            self.assertEqual(row_text(row), text)

    def test_drawn_rows(self):
        draw = random.Random(142)
        for many in range(1, 41):
            row = tuple(draw.randrange(8) for turn in range(many))
            told = row_text(row)
            self.assertIs(type(told), str)
            self.assertEqual(told, " ".join(map(str, row)))


class WebRead(Refused):
    def no(self, *things):
        for thing in things:
            self.refused(web_read, thing)

    def test_by_hand(self):
        for text, web in WEB_TEXTS.items():
            told = web_read(text)
            self.assertTrue(is_plain_web(told))
            self.assertEqual(told, web)

    def test_what_is_written_is_read_as_the_same(self):
        for web in ASKED + all_webs(5):
            told = web_read(web_text(web))
            self.assertTrue(is_plain_web(told))
            self.assertEqual(told, web)

    def test_a_needless_0_ahead(self):
        self.no("01:", "03: 0-1", "3: 00-1", "3: 0-01", "3: 01-2", "3: 1-02", "008:", "0:", "00:")

    def test_blanks(self):
        self.no(" 1:", "1: ", "1 :", " 3: 0-1", "3: 0-1 ", "3:  0-1", "3: 0-1  1-2", "3:0-1", "3: 0-11-2", "3 : 0-1")
        self.no("3: 0 -1", "3: 0- 1", "3: 0 - 1", " ", "  ", "3:\t0-1", "3:\n0-1", "3: 0-1\n", "\n3: 0-1")

    def test_ties_out_of_order_twice_or_turned_about(self):
        self.no("3: 1-2 0-1", "3: 0-2 0-1", "4: 0-1 2-3 1-2", "3: 0-1 0-1", "3: 0-1 1-2 1-2", "3: 0-1 1-2 0-1")
        self.no("3: 1-0", "3: 0-1 2-1", "3: 0-1 1-0", "3: 0-0", "3: 1-1", "1: 0-0")

    def test_places_beyond(self):
        for places in range(1, 9):
            self.no(f"{places}: 0-{places}", f"{places}: {places}-{places + 1}", f"{places}: {places - 1}-{places}")
            self.no(f"{places}: 0-{places + 1}", f"{places}: 0-10", f"{places}: -1-0", f"{places}: -1")

    def test_numbers_of_places_beyond(self):
        self.no("0:", "9:", "10:", "11:", "18:", "80:", "-1:", "9: 0-1", "10: 0-1", "0: 0-1", "+3:", "3.0:", "100:")

    def test_no_colon(self):
        self.no("3", "3 0-1", "1", "", ":", "::", ": 0-1", "3;", "3::", "3: :", "3: 0-1:", "3: 0-1 1-2:", "3 0-1:")

    def test_other_signs(self):
        self.no("3: 0-1,1-2", "3: 0-1, 1-2", "3: 0_1", "3: 0--1", "3: 0-1-2", "3: -", "3: 0-", "3: -1", "3: 0", "3: 0 1")
        self.no("x:", "a", "none", "three:", "3: a-b", "3: 0-x", "~", "(3, ())", "3: none", "1: none", "3: 0=1", "1:1:")
        # Signs that Python takes for figures, though they are none here.
        self.no("\u0663:", "\uff13: 0-1", "3: 0-\u0661", "\u00b2:", "3:\u00a00-1", "3: 0\u20131")

    def test_long_texts(self):
        self.no("1" * 400, "8:" + " 0-1" * 90, " " * 400, "8: " + "0" * 390 + "-1", "1:" * 200)

    def test_near_misses(self):
        for web in [empty(1), full(2), path(3), (8, ((0, 7), (1, 2)))]:
            written = {web_text(other) for other in small_webs(4)}
            for text in near_misses(web_text(web)):
                if text in written:
                    self.assertEqual(web_text(web_read(text)), text)
                else:
                    self.check(text)

    def check(self, text):
        """What is read writes this very text, else it is refused."""
        try:
            told = web_read(text)
        except BadNote:
            return
        self.assertTrue(is_plain_web(told), text)
        self.assertEqual(" ".join([f"{told[0]}:"] + [f"{low}-{high}" for low, high in told[1]]), text)

    def test_every_text_of_up_to_three_of_some_signs(self):
        for many in range(4):
            for signs in itertools.product("0129: -n", repeat=many):
                text = "".join(signs)
                if text in ("1:", "2:"):
                    self.assertEqual(web_read(text), (int(text[0]), ()))
                else:
                    self.no(text)

    def test_what_is_no_text(self):
        self.no(*no_texts())

    def test_texts_of_all_kinds(self):
        self.no(*[thing for thing in odd_things() if isinstance(thing, str) and thing != "3: 0-1"])

    def test_nothing_that_is_handed_in_is_changed(self):
        things = no_texts()
        before = copy.deepcopy(things)
        self.no(*things)
        self.assertEqual(repr(things), repr(before))


class RowRead(Refused):
    def no(self, *things):
        for thing in things:
            self.refused(row_read, thing)

    def test_by_hand(self):
        for text, row in ROW_TEXTS.items():
            told = row_read(text)
            self.assertIs(type(told), tuple)
            self.assertTrue(all(map(is_number, told)))
            self.assertEqual(told, row)

    def test_what_is_written_is_read_as_the_same(self):
        draw = random.Random(143)
        for many in range(41):
            row = tuple(draw.randrange(8) for turn in range(many))
            told = row_read(row_text(row))
            self.assertIs(type(told), tuple)
            self.assertEqual(told, row)
        for row in itertools.product(range(8), repeat=2):
            self.assertEqual(row_read(row_text(row)), row)

    def test_forty_numbers_and_more(self):
        for place in range(8):
            self.assertEqual(row_read(" ".join([str(place)] * 40)), (place,) * 40)
            for many in (41, 42, 60, 200):
                self.no(" ".join([str(place)] * many))

    def test_numbers_above_7(self):
        self.no("8", "9", "10", "77", "0 8", "8 0", "1 2 9", "12", "0 10", "-1", "0 -1", "-0", "+1")

    def test_a_needless_0_ahead(self):
        self.no("00", "01", "0 01", "07 1", "1 00")

    def test_blanks(self):
        self.no(" ", "  ", " 0", "0 ", "0  1", " 0 1", "0 1 ", "0\t1", "0\n", "\n0", "0 1\n", " none", "none ")

    def test_the_empty_text_and_other_words(self):
        self.no("", "None", "NONE", "non", "nones", "none none", "none 0", "0 none", "never", "a", "()", "0,1", "0, 1")
        self.no("0-1", "1:", "3: 0-1", "~", "0.", "1.0", "\u0663", "\uff11", "\u00b2", "0\u00a01")

    def test_near_misses(self):
        for text in ROW_TEXTS:
            for near in near_misses(text):
                plain = near == "none" or all(len(word) == 1 and word in "01234567" for word in near.split(" "))
                if plain:
                    self.assertEqual(row_text(row_read(near)), near)
                else:
                    self.no(near)

    def test_what_is_no_text(self):
        self.no(*no_texts())

    def test_texts_of_all_kinds(self):
        self.no(*[thing for thing in odd_things() if isinstance(thing, str) and thing not in ("0", "none")])

    def test_nothing_that_is_handed_in_is_changed(self):
        things = no_texts()
        before = copy.deepcopy(things)
        self.no(*things)
        self.assertEqual(repr(things), repr(before))


if __name__ == "__main__":
    unittest.main()
