"""Tables that are led into others."""

from markladder.checks import is_mark_of, lot_of, need_other
from markladder.kinds import is_tuple_of


def is_leading(table, other, names):
    """Whether any value is a leading of the table into the other one."""
    need_other(table, other)
    marks, ends = lot_of(table[1]), lot_of(other[1])
    if not is_tuple_of(names, len(marks)):
        return False
    for mark, pair in zip(marks, names):
        if not is_tuple_of(pair, 2) or pair[0] != mark or not is_mark_of(pair[1], ends):
            return False
    told = {mark: end for mark, end in names}
    return all([led_row(row, told) in other[1] for row in table[1]])


def leading_of(table, other):
    """The least leading of the table into the other one, None if there is none."""
    need_other(table, other)
    marks, ends = lot_of(table[1]), lot_of(other[1])
    # Beginnings of what becomes of the marks, in order: the least one that is not tried yet is the last one.
    waiting = [""]
    while len(waiting) > 0:
        begun = waiting.pop()
        if goes_on(table[1], other[1], marks, begun):
            if len(begun) == len(marks):
                return tuple(list(zip(marks, begun)))
            waiting.extend([begun + end for end in ends[::-1]])
    return None


def led_row(row, told):
    """What becomes of the row if its marks are exchanged as told."""
    return told[row[0]] + "".join(sorted([told[mark] for mark in row[1:]]))


def goes_on(rows, others, marks, begun):
    """Whether the rows whose last mark is the last one that is told become rows of the others."""
    if begun == "":
        return True
    told = {mark: end for mark, end in zip(marks, begun)}
    last = marks[len(begun) - 1]
    return all([led_row(row, told) in others for row in rows if max(list(row)) == last])
