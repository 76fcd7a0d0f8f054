"""Marks that are told by bits, and what judges bits."""

from markladder.beacons import (code_in, code_spot, codes_told, nearest_above, readable_in, regions_by, turns_in,
                                width_for)
from markladder.checks import judge, lot_of, need, need_table_shape
from markladder.kinds import is_index, is_number, is_word_of
from markladder.marking import filled
from markladder.nesting import parents_in


def told_code(table, shape, bits, gap, place):
    """The code that the bits tell of a readable beacon."""
    need_bits(table, shape, bits, gap)
    parents, turns, readable = layout_of(table, shape, gap)
    need(is_index(place, len(shape)) and place in readable, "place")
    return codes_told(parents, turns, bits, readable, table_width(table))[place]


def marking_by(table, shape, bits, gap):
    """The least whole right marking with the marks that the bits tell of the readable beacons, None without any."""
    need_bits(table, shape, bits, gap)
    told = told_marks(table, layout_of(table, shape, gap), bits)
    if None in list(told.values()):
        return None
    return filled(table, shape, "".join([told.get(place, "?") for place in range(len(shape))]))


def lets_bits(table, shape, bits, gap):
    """The marking that the bits tell, if all places let them."""
    need_table_shape(table, shape)
    need(is_number(gap), "gap")
    judge(is_bits(bits, len(shape)), "shape", -1)
    layout = layout_of(table, shape, gap)
    judge_turns(layout, bits, table_width(table))
    judge_codes(layout, bits, table_width(table))
    told = told_marks(table, layout, bits)
    for beacon in told:
        judge(told[beacon] is not None, "mark", beacon)
    parents, _, readable = layout
    for region in regions_by(parents, readable):
        judge(region_marking(table, shape, told, region) is not None, "region", region[0])
    return marking_by(table, shape, bits, gap)


def is_bits(thing, size):
    """Whether any value is a string of so many signs 0 and 1."""
    return is_word_of(thing, "01") and len(thing) == size


def need_bits(table, shape, bits, gap):
    """Refuses what is no shape for a table, no bits for it, and no gap."""
    need_table_shape(table, shape)
    need(is_bits(bits, len(shape)), "bits")
    need(is_number(gap), "gap")


def table_width(table):
    """How many bits a code of a mark of the table has."""
    return width_for(len(lot_of(table[1])))


def layout_of(table, shape, gap):
    """The lists of the parents and of the turns of all places, and that of the readable beacons."""
    parents = parents_in(table[0], shape)
    turns = turns_in(table[0], shape, table_width(table), gap)
    return parents, turns, readable_in(parents, turns, table_width(table))


def told_marks(table, layout, bits):
    """For each readable beacon of a layout the mark whose code the bits tell of it, None if it is no mark's."""
    parents, turns, readable = layout
    width = table_width(table)
    marks = {code_in(index, width): mark for index, mark in enumerate(lot_of(table[1]))}
    codes = codes_told(parents, turns, bits, readable, width)
    return {beacon: marks.get(codes[beacon]) for beacon in readable}


def judge_turns(layout, bits, width):
    """Judges the bits at the turns at which no code stands."""
    _, turns, _ = layout
    for place, turn in enumerate(turns):
        told = "1" if turn < 2 else "0"
        judge(code_spot(turn, width) is not None or bits[place] == told, "turn", place)


def judge_codes(layout, bits, width):
    """Judges the bits at the turns of codes: those of one turn and one nearest beacon above are to be alike."""
    parents, turns, _ = layout
    nearest = nearest_above(parents, [turn == 0 for turn in turns])
    firsts = {}
    for place, turn in enumerate(turns):
        if code_spot(turn, width) is not None:
            first = firsts.setdefault((nearest[place], turn), bits[place])
            judge(bits[place] == first, "code", place)


def region_marking(table, text, told, region):
    """The least right marking of the places of a region with the told marks, None if there is none.

    In the region the readable beacons other than its top are places without children.
    """
    top, places = region
    ends = [place for place in places if place != top and place in told]
    shape = "".join(["." if place in ends else text[place] for place in places])
    return filled(table, shape, "".join([told.get(place, "?") for place in places]))
