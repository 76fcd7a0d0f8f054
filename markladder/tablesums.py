"""Two tables at once, and side by side."""

from markladder.checks import lot_of, need, need_other
from markladder.kinds import LETTERS
from markladder.marking import orders_of


def pairs_of(table, other):
    """The tuple of all strings of a mark of the table and one of the other."""
    need_other(table, other)
    pairs = [mark + end for mark in lot_of(table[1]) for end in lot_of(other[1])]
    need(len(pairs) <= len(LETTERS), "other")
    return tuple(pairs)


def at_once(table, other):
    """The table at once with the other one, each pair of marks told by its letter."""
    letters = {pair: LETTERS[index] for index, pair in enumerate(pairs_of(table, other))}
    rows = []
    for row in table[1]:
        for late in other[1]:
            rows.extend([paired(letters, row, late[0] + order) for order in orders_of(late[1:])])
    return (table[0], tuple(sorted(set(rows))))


def side_by_side(table, other):
    """The table side by side with the other one, whose marks become the letters behind those of the table."""
    need_other(table, other)
    marks = lot_of(other[1])
    free = LETTERS[LETTERS.index(lot_of(table[1])[-1]) + 1:]
    need(len(marks) <= len(free), "other")
    letters = {mark: letter for mark, letter in zip(marks, free)}
    rows = ["".join([letters[mark] for mark in row]) for row in other[1]]
    return (table[0], (*table[1], *rows))


def paired(letters, row, late):
    """The row of the letters of the pairs of a mark of one row and the one of the other in its place."""
    signs = [letters[mark + end] for mark, end in zip(row, late)]
    return signs[0] + "".join(sorted(signs[1:]))
