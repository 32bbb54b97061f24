"""Webs and rows of turns, written and read (point 90)."""

from nearturns.errors import BadNote
from nearturns.ways import MOST_TURNS
from nearturns.webs import MOST_PLACES, is_web

# No web and no row that is read has a number of more than one figure.
FIGURES = ("0", "1", "2", "3", "4", "5", "6", "7", "8")


def web_text(web):
    """The text that writes the web."""
    places, ties = web
    return f"{places}:" + "".join([f" {low}-{high}" for low, high in ties])


def row_text(row):
    """The text that writes a row."""
    return " ".join([str(place) for place in row]) if row else "none"


def number_read(word):
    """The number from 0 to 8 that a word writes."""
    if word not in FIGURES:
        raise BadNote("no number from 0 to 8 is written")
    return int(word)


def place_read(word):
    """The number from 0 to 7 that a word writes."""
    number = number_read(word)
    if number >= MOST_PLACES:
        raise BadNote("no number from 0 to 7 is written")
    return number


def tie_read(word):
    """The tuple of the numbers that a word writes with strokes between."""
    return tuple([number_read(end) for end in word.split("-")])


def refuse_other(thing):
    """Refuse what is no text."""
    if not isinstance(thing, str):
        raise BadNote("what is no text writes nothing")


def web_read(text):
    """The web that a text writes."""
    refuse_other(text)
    head, *words = text.split(" ")
    if not head.endswith(":"):
        raise BadNote("a web is written with a colon behind its number of places")
    web = (number_read(head[:-1]), tuple([tie_read(word) for word in words]))
    if not is_web(web):
        raise BadNote("no web is written")
    return web


def row_read(text):
    """The row of numbers from 0 to 7 that a text writes."""
    refuse_other(text)
    if text == "none":
        return ()
    row = tuple([place_read(word) for word in text.split(" ")])
    if len(row) > MOST_TURNS:
        raise BadNote(f"a row has at most {MOST_TURNS} numbers")
    return row
