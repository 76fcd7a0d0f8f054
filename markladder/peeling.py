"""Shapes that are taken away in rounds of peelings and stretches."""

from markladder.checks import need, need_shape
from markladder.kinds import is_number, is_positive
from markladder.nesting import children_in


def rounds_of(many, shape, g, l, k):
    """A tuple with, for each place, the pair of the word by which it is taken and its round."""
    need_peeling(many, shape, g, l)
    need(is_positive(k), "k")
    return taken_in(many, shape, g, l, k)


def left_after(many, shape, g, l, i):
    """How many places are left after i rounds, more rounds being to come."""
    need_peeling(many, shape, g, l)
    need(is_number(i), "i")
    taken = taken_in(many, shape, g, l, i + 1)
    return len([place for place in taken if place[1] > i])


def least_g(many, shape, l, k):
    """The least g with which there are at most g peelings in round k."""
    need_shape(many, shape)
    need(is_positive(l), "l")
    need(is_positive(k), "k")
    children = children_in(many, shape)
    g = 1
    while last_peelings(children, g, l, k) > g:
        g = g + 1
    return g


def need_peeling(many, shape, g, l):
    """Refuses what no shape can be peeled by."""
    need_shape(many, shape)
    need(is_positive(g), "g")
    need(is_positive(l), "l")


def taken_in(many, shape, g, l, k):
    """For each place the pair of the word by which it is taken and its round, as a tuple."""
    children = children_in(many, shape)
    taken = [None for _ in shape]
    number = 1
    while number < k and None in taken:
        left = [one is None for one in taken]
        words = words_of_round(children, left, g, l)
        taken = [(words[place], number) if place in words else one for place, one in enumerate(taken)]
        number = number + 1
    return tuple([("peel", number) if one is None else one for one in taken])


def last_peelings(children, g, l, k):
    """How many peelings there are in round k, the last one."""
    left = [True for _ in children]
    number = 1
    while number < k and any(left):
        words = words_of_round(children, left, g, l)
        left = [held and place not in words for place, held in enumerate(left)]
        number = number + 1
    return max(left_heights(children, left)) + 1


def words_of_round(children, left, g, l):
    """For each place that is taken in a round before the last one the word by which it is."""
    heights = left_heights(children, left)
    words = {place: "peel" for place, height in enumerate(heights) if 0 <= height < g}
    unpeeled = [height >= g for height in heights]
    words.update({place: "stretch" for place in stretched(children, unpeeled, l)})
    return words


def left_heights(children, left):
    """For each place left the height of what is left of its part, -1 for the other places."""
    heights = [-1 for _ in children]
    for place in reversed(range(len(children))):
        if left[place]:
            heights[place] = 1 + max([heights[child] for child in children[place]], default=-1)
    return heights


def stretched(children, left, l):
    """The list of the places left that are in stretches of at least l places."""
    rows = {}
    for place, below in enumerate(children):
        rest = [child for child in below if left[child]]
        if left[place] and len(rest) == 1:
            # A place that is the only child left of the one ahead belongs to the row of this.
            row = [*rows.pop(place, []), place]
            rows[rest[0]] = row
    return [place for row in list(rows.values()) if len(row) >= l for place in row]
