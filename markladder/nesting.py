"""How the signs of shapes, trees and surroundings stand one below another; nothing is checked here."""

from markladder.kinds import CAPITALS


def has_children(sign):
    """Whether a place with this sign has children."""
    return sign == "+" or sign in CAPITALS


def parents_in(many, text):
    """The list of the parents of all places, None for the top."""
    parents = []
    waiting = [None]
    for place, sign in enumerate(text):
        parents.append(waiting.pop())
        if has_children(sign):
            waiting.extend([place] * many)
    return parents


def children_in(many, text):
    """The list of the lists of the children of all places."""
    children = [[] for _ in text]
    for place, parent in enumerate(parents_in(many, text)):
        if parent is not None:
            children[parent].append(place)
    return children


def depths_in(many, text):
    """The list of the depths of all places."""
    depths = []
    for parent in parents_in(many, text):
        depths.append(0 if parent is None else depths[parent] + 1)
    return depths


def part_end(many, text, place):
    """The index behind the last sign of a place's part."""
    lacking = 1
    end = place
    while lacking > 0:
        lacking = lacking - 1 + (many if has_children(text[end]) else 0)
        end = end + 1
    return end
