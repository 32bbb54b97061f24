"""Trees, and those that are alike with a web (point 63)."""

from nearturns.ways import all_alike
from nearturns.webs import pieces


def is_tree(web):
    """Whether the web is a tree."""
    places, ties = web
    return len(pieces(web)) == 1 and len(ties) == places - 1


def trees_alike(web):
    """All trees that are alike with the web, rising."""
    return [known for known in all_alike(web) if is_tree(known)]
