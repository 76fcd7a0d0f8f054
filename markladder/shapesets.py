"""What the tops of all shapes can have, with the least shape for each lot."""

from markladder.checks import lot_of, need
from markladder.kinds import is_table
from markladder.marking import settings_of, tops_over


def all_tops(table):
    """The tuple of the pairs (lot, shape): each lot that is tops_by of some shape, with the least such shape."""
    need(is_table(table), "table")
    shapes = least_shapes(table)
    return tuple([(lot, shapes[lot]) for lot in sorted(shapes)])


def least_never(table):
    """The least shape that cannot be marked right, None if there is none."""
    need(is_table(table), "table")
    return least_shapes(table).get("")


def least_shapes(table):
    """For each lot that is tops_by of some shape the least such shape.

    The least of all shapes offered is final, as those that are made with it are greater.
    """
    many, rows = table
    settings = settings_of(rows)
    shapes = {}
    offers = {lot_of(rows): "."}
    while len(offers) > 0:
        lot = min(list(offers), key=lambda offered: (len(offers[offered]), offers[offered]))
        shapes[lot] = offers.pop(lot)
        for lots in choices_with(list(shapes), lot, many):
            top_lot = tops_over(settings, lots)
            shape = "+" + "".join([shapes[one] for one in lots])
            if top_lot not in shapes and is_less(shape, offers.get(top_lot)):
                offers[top_lot] = shape
    return shapes


def choices_with(lots, needed, many):
    """The list of the tuples of many of these lots in which the needed one stands."""
    choices = [()]
    for _ in range(many):
        choices = [(*choice, lot) for choice in choices for lot in lots]
    return [choice for choice in choices if needed in choice]


def is_less(shape, other):
    """Whether the shape is less than another one, or there is no other one."""
    return other is None or (len(shape), shape) < (len(other), other)
