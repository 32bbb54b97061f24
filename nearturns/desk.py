"""A desk that keeps webs by names and answers lines (points 91 and 92)."""

from nearturns.cuts import cut_rank, first_apart
from nearturns.errors import BadNote, NoName
from nearturns.lesser import left_out, lies_under
from nearturns.notes import place_read, refuse_other, row_read, row_text, web_read, web_text
from nearturns.peeled import peeled
from nearturns.pivots import pivoted
from nearturns.ways import all_alike, are_alike, is_row, way
from nearturns.webs import is_place, near, pieces, turned, turned_along

LETTERS = "abcdefghijklmnopqrstuvwxyz"
MOST_LETTERS = 8

# What follows the first word of a line, called as in the document; a TEXT is called by what it writes.
FORMS = {
    "web": ("N", "WEB"),
    "webs": (),
    "show": ("A",),
    "near": ("A", "K"),
    "pieces": ("A",),
    "turn": ("A", "K", "N"),
    "pivot": ("A", "K", "L", "N"),
    "leave": ("A", "K", "N"),
    "along": ("A", "N", "ROW"),
    "alike": ("A", "B"),
    "way": ("A", "B"),
    "many": ("A",),
    "under": ("A", "B"),
    "rank": ("A", "SIDE"),
    "apart": ("A", "B"),
    "peeled": ("A",),
}
KEPT = ("A", "B")
TEXTS = ("WEB", "ROW", "SIDE")


def rows_text(rows):
    """The text of several rows."""
    return " / ".join([row_text(row) for row in rows])


def row_or_never(row):
    """The text of a row, or of None."""
    return "never" if row is None else row_text(row)


def yes_or_no(truth):
    """The text of a truth."""
    return "yes" if truth else "no"


def tell_show(web):
    return web_text(web)


def tell_near(web, place):
    return row_text(near(web, place))


def tell_pieces(web):
    return rows_text(pieces(web))


def tell_alike(one, other):
    return yes_or_no(are_alike(one, other))


def tell_way(one, other):
    return row_or_never(way(one, other))


def tell_many(web):
    return str(len(all_alike(web)))


def tell_under(web, small):
    return yes_or_no(lies_under(small, web))


def tell_rank(web, side):
    return str(cut_rank(web, side))


def tell_apart(one, other):
    return row_or_never(first_apart(one, other))


def tell_peeled(web):
    return rows_text(peeled(web))


def make_web(web):
    return web


def make_turn(web, place):
    return turned(web, place)


def make_pivot(web, one, other):
    return pivoted(web, one, other)


def make_leave(web, place):
    return left_out(web, place)[0]


def make_along(web, row):
    return turned_along(web, row)


TELLERS = {
    "show": tell_show,
    "near": tell_near,
    "pieces": tell_pieces,
    "alike": tell_alike,
    "way": tell_way,
    "many": tell_many,
    "under": tell_under,
    "rank": tell_rank,
    "apart": tell_apart,
    "peeled": tell_peeled,
}
MAKERS = {
    "web": make_web,
    "turn": make_turn,
    "pivot": make_pivot,
    "leave": make_leave,
    "along": make_along,
}


def name_read(word):
    """The name that a word is."""
    if not 1 <= len(word) <= MOST_LETTERS or not all([sign in LETTERS for sign in word]):
        raise BadNote(f"a name is made of 1 to {MOST_LETTERS} small letters")
    return word


def part_read(sign, words):
    """What the words of a part of a line write, where the form of the line calls it so."""
    if sign == "WEB":
        return web_read(words)
    if sign in ("ROW", "SIDE"):
        return row_read(words)
    if sign in ("K", "L"):
        return place_read(words)
    return name_read(words)


def line_read(line):
    """The first word of a line, and what the parts that follow it write, in the order of its form."""
    refuse_other(line)
    word, *parts = line.split(" ")
    if word not in FORMS:
        raise BadNote("no line begins with this word")
    form = FORMS[word]
    if any([sign in TEXTS for sign in form]):
        # A text has blanks of its own: all that follows is one part.
        ahead = len(form) - 1
        parts = parts[:ahead] + [" ".join(parts[ahead:])]
    if len(parts) != len(form):
        raise BadNote("a line of this word has another count of words")
    return (word, [part_read(sign, part) for sign, part in zip(form, parts)])


def rises(side):
    """Whether each place of a row is greater than the one ahead of it."""
    return all([side[k] < side[k + 1] for k in range(len(side) - 1)])


def fits(web, sign, part):
    """Whether the numbers of a part of a line are places of the web, and rise where they are a side."""
    if sign in ("K", "L"):
        return is_place(web, part)
    if sign in ("ROW", "SIDE"):
        return is_row(web, part) and (sign == "ROW" or rises(part))
    return True


class Desk:
    """Webs kept by names."""

    def __init__(self):
        self.kept = {}

    def say(self, line):
        """The answer to a line."""
        word, parts = line_read(line)
        form = FORMS[word]
        told = self.looked_up(form, parts)
        if word == "webs":
            return " ".join(sorted(self.kept))
        if "N" in form:
            maker = MAKERS[word]
            # Made first, kept then: where it is refused the elder web stays.
            made = maker(*told)
            self.kept[parts[form.index("N")]] = made
            return "ok"
        teller = TELLERS[word]
        return teller(*told)

    def looked_up(self, form, parts):
        """What a line tells: its parts without the new name, webs in the stead of their names."""
        signed = [(sign, part) for sign, part in zip(form, parts) if sign != "N"]
        for sign, part in signed:
            if sign in KEPT and part not in self.kept:
                raise NoName(f"no web is kept by the name {part}")
        told = [self.kept[part] if sign in KEPT else part for sign, part in signed]
        if not all([fits(told[0], sign, part) for sign, part in signed]):
            raise BadNote("a number is no place of the web, or a side does not rise")
        return told
