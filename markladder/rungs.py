"""The rungs of tables."""

from markladder.checks import need
from markladder.goodrows import root_of
from markladder.readings import number_in
from markladder.walkers import alike_marks, below_lots, side_lots

NAMES = ("log", "sides", "below", "alike")


def rung_of(table):
    """The rung of the table."""
    root = root_of(table)
    if root is not None:
        return str(root)
    if alike_marks(table) != "":
        return "alike"
    if len(below_lots(table)) > 0:
        return "below"
    return "sides" if len(side_lots(table)) > 0 else "log"


def is_at_least(rung, other):
    """Whether a rung is another one, or a higher one."""
    need(is_rung(rung), "rung")
    need(is_rung(other), "other")
    return rung_key(rung) >= rung_key(other)


def is_rung(thing):
    """Whether any value is a rung."""
    return isinstance(thing, str) and (thing in NAMES or number_in(thing) is not None)


def rung_key(rung):
    """What ascends as rungs do: the place of the name, 0 for numbers, and the number, 0 for names."""
    return (NAMES.index(rung) + 1, 0) if rung in NAMES else (0, int(rung))
