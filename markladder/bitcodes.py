"""Codes of marks, and the bits that a helper lays by them."""

from markladder.beacons import (bits_by_codes, code_in, period_for, readable_in, regions_by, turns_in, width_for)
from markladder.checks import is_mark_of, lot_of, need, need_table_shape
from markladder.kinds import is_marking, is_number, is_table
from markladder.marking import is_right
from markladder.nesting import parents_in


def width_of(table):
    """The width of the table: how many bits a code has."""
    need(is_table(table), "table")
    return width_for(len(lot_of(table[1])))


def code_of(table, mark):
    """The code of the mark, a string of 0 and 1."""
    need(is_table(table), "table")
    marks = lot_of(table[1])
    need(is_mark_of(mark, marks), "mark")
    return code_in(marks.index(mark), width_of(table))


def period_of(table, gap):
    """The period by the gap."""
    need(is_table(table), "table")
    need(is_number(gap), "gap")
    return period_for(width_of(table), gap)


def looks_of(table, gap):
    """How many steps a place has to look around to tell its mark."""
    return 2 * period_of(table, gap) + 4 * width_of(table) + 1


def turns_of(table, shape, gap):
    """A tuple with the turn of each place."""
    need_turns(table, shape, gap)
    return tuple(turns_in(table[0], shape, width_of(table), gap))


def bits_of(table, shape, marking, gap):
    """The bits by a whole right marking."""
    need_table_shape(table, shape)
    need(is_marking(marking) and len(marking) == len(shape) and is_right(table, shape, marking), "marking")
    need(is_number(gap), "gap")
    width = width_of(table)
    codes = {mark: code_in(index, width) for index, mark in enumerate(lot_of(table[1]))}
    turns = turns_in(table[0], shape, width, gap)
    return bits_by_codes(parents_in(table[0], shape), turns, [codes[mark] for mark in marking], width)


def beacons_of(table, shape, gap):
    """The set of the beacons."""
    return tuple([place for place, turn in enumerate(turns_of(table, shape, gap)) if turn == 0])


def readable_of(table, shape, gap):
    """The set of the readable beacons."""
    turns = turns_of(table, shape, gap)
    return tuple(readable_in(parents_in(table[0], shape), turns, width_of(table)))


def regions_of(table, shape, gap):
    """A tuple with a pair (top, places) for each region, ascending by their tops."""
    readable = readable_of(table, shape, gap)
    return tuple(regions_by(parents_in(table[0], shape), readable))


def need_turns(table, shape, gap):
    """Refuses what no turns can be told by."""
    need_table_shape(table, shape)
    need(is_number(gap), "gap")
