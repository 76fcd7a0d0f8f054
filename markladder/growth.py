"""What one event makes of a live wood, or why it is refused.

A state is a tuple (table, shape, bits, walker, names). walker is None, or the pair of the kind of the last walk and of
its lot or lots; names are those of the moments, in their order. What is told of an event is the pair of the reason for
which it is refused, None without any, and of the state behind it.
"""

from markladder.beacons import bits_by_codes, code_spot, nearest_above, period_for, turns_in
from markladder.bitcodes import bits_of
from markladder.bitmarks import table_width
from markladder.changes import pruned, sprouted
from markladder.marking import is_right
from markladder.nesting import parents_in, part_end
from markladder.walkers import below_lots, side_lots, side_marking, walk_marking
from markladder.woodevents import is_event

MOST_PLACES = 60


def first_state(table, shape):
    """The state of a wood at its beginning."""
    width = table_width(table)
    zeros = ["0" * width for _ in shape]
    bits = bits_by_codes(parents_in(table[0], shape), turns_in(table[0], shape, width, 0), zeros, width)
    return (table, shape, bits, None, ())


def sprout_behind(state, place):
    """What is told of sprout: a place without children gets children without children."""
    table, shape, bits, walker, names = state
    reason = place_reason(shape, place, ".")
    if reason is None and len(shape) + table[0] > MOST_PLACES:
        reason = "great"
    if reason is not None:
        return reason, state
    more = new_bit(state, place) * table[0]
    return None, (table, sprouted(table[0], shape, place), bits[:place + 1] + more + bits[place + 1:], walker, names)


def prune_behind(state, place):
    """What is told of prune: a place with children loses all below it."""
    table, shape, bits, walker, names = state
    reason = place_reason(shape, place, "+")
    if reason is not None:
        return reason, state
    end = part_end(table[0], shape, place)
    return None, (table, pruned(table[0], shape, place), bits[:place + 1] + bits[end:], walker, names)


def bit_behind(state, place):
    """What is told of bit: the bit of a place turns."""
    table, shape, bits, walker, names = state
    if place >= len(shape):
        return "place", state
    turned = "1" if bits[place] == "0" else "0"
    return None, (table, shape, bits[:place] + turned + bits[place + 1:], walker, names)


def helper_behind(state, marking):
    """What is told of helper: the bits are those by a marking."""
    table, shape, _, walker, names = state
    if len(marking) != len(shape) or not is_right(table, shape, marking):
        return "right", state
    return None, (table, shape, bits_of(table, shape, marking, 0), walker, names)


def walk_behind(state, kind):
    """What is told of walk: a walker of this kind lays marks from now on."""
    table, shape, bits, _, names = state
    lots = below_lots(table) if kind == "below" else side_lots(table)
    if len(lots) == 0:
        return "none", state
    return None, (table, shape, bits, (kind, lots[0]), names)


def mark_behind(state, name):
    """What is told of mark: this moment has this name."""
    table, shape, bits, walker, names = state
    if name in names:
        return "twice", state
    return None, (table, shape, bits, walker, (*names, name))


ACTIONS = {"sprout": sprout_behind, "prune": prune_behind, "bit": bit_behind, "helper": helper_behind,
           "walk": walk_behind, "mark": mark_behind}


def state_behind(state, event, is_full):
    """The pair of the reason for which any value is refused, None without any, and of the state behind it.

    is_full tells whether no event can happen any more.
    """
    if not is_event(event):
        return "shape", state
    if is_full:
        return "full", state
    word, value = event
    action = ACTIONS[word]
    return action(state, value)


def walked_marking(state):
    """The marking that the walker of a state lays, None without one."""
    table, shape, _, walker, _ = state
    if walker is None:
        return None
    kind, lots = walker
    return walk_marking(table, lots, shape) if kind == "below" else side_marking(table, lots, shape)


def place_reason(shape, place, sign):
    """The reason for which there is no such place with this sign, None without any."""
    if place >= len(shape):
        return "place"
    return None if shape[place] == sign else "kind"


def new_bit(state, place):
    """The bit of each new child of a place: that of the places alike, of which the codes told so far are made."""
    table, shape, bits, _, _ = state
    width = table_width(table)
    turns = turns_in(table[0], shape, width, 0)
    nearest = nearest_above(parents_in(table[0], shape), [turn == 0 for turn in turns])
    new = (turns[place] + 1) % period_for(width, 0)
    if code_spot(new, width) is None:
        return "1" if new < 2 else "0"
    alike = [bits[spot] for spot, turn in enumerate(turns) if turn == new and nearest[spot] == nearest[place]]
    return alike[0] if len(alike) > 0 else "0"
