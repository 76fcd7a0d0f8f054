"""Tables as checkers: the shapes that can be marked right as trees of a single label."""

from markladder.checks import lot_of, need
from markladder.joining import least_machine
from markladder.kinds import is_table
from markladder.telling import checker_machine


def table_checker(table):
    """The checker of trees of the label a in which each note stands for the mark with this index."""
    need(is_table(table) and table[0] == 2 and len(lot_of(table[1])) <= 10, "table")
    tags = {mark: f"a{note}" for note, mark in enumerate(lot_of(table[1]))}
    rows = [tags[row[0]] + tags[row[1]] + tags[row[2]] for row in table[1]]
    turned = [tags[row[0]] + tags[row[2]] + tags[row[1]] for row in table[1]]
    return (2, tuple(tags.values()), tuple(tags.values()), tuple(sorted(set([*rows, *turned]))))


def shapes_machine(table):
    """The least machine by which a tree of labels a has the property if its shape can be marked right."""
    return least_machine(checker_machine(table_checker(table), "a"))
