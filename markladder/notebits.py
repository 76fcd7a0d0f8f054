"""Bits that tell notes, and the places that say no to them."""

from markladder.beacons import (bits_by_codes, code_in, code_spot, codes_told, nearest_above, readable_in, regions_by,
                                turns_in, width_for)
from markladder.bitmarks import is_bits
from markladder.checks import need
from markladder.kinds import is_checker, is_index, is_number, tags_in
from markladder.nesting import children_in, parents_in
from markladder.noting import is_noted, need_noting, noted, ways_over


def note_width(checker):
    """The width of the checker: how many bits a code of a note has."""
    need(is_checker(checker), "checker")
    return width_for(max([len(notes) for notes in notes_by_label(checker).values()], default=0))


def note_bits(checker, tree, notes, gap):
    """The bits by right notes."""
    need(is_noted(checker, tree, notes), "notes")
    need(is_number(gap), "gap")
    known = notes_by_label(checker)
    width = note_width(checker)
    codes = [code_in(known[label].index(note), width) for label, note in zip(tree.lower(), notes)]
    return bits_by_codes(parents_in(checker[0], tree), turns_in(checker[0], tree, width, gap), codes, width)


def tree_regions(checker, tree, gap):
    """A tuple with a pair (top, places) for each region, ascending by their tops."""
    need_noting(checker, tree)
    need(is_number(gap), "gap")
    parents, _, readable = tree_layout(checker, tree, gap)
    return tuple(regions_by(parents, readable))


def notes_by(checker, tree, bits, gap):
    """The least right notes with the notes that the bits tell of the readable beacons, None without any."""
    need_note_bits(checker, tree, bits, gap)
    told = told_notes(checker, tree, bits, tree_layout(checker, tree, gap))
    if None in list(told.values()):
        return None
    return noted(checker, tree, "".join([told.get(place, "?") for place in range(len(tree))]))


def bits_say(checker, tree, bits, gap):
    """The set of the places that say no."""
    need_note_bits(checker, tree, bits, gap)
    return tuple([place for place, reason in enumerate(reasons_in(checker, tree, bits, gap)) if reason is not None])


def why_no(checker, tree, bits, gap, place):
    """The first reason why the place says no, None if there is none."""
    need_note_bits(checker, tree, bits, gap)
    need(is_index(place, len(tree)), "place")
    return reasons_in(checker, tree, bits, gap)[place]


def need_note_bits(checker, tree, bits, gap):
    """Refuses what is no checker, no tree for it, no bits for this, and no gap."""
    need_noting(checker, tree)
    need(is_bits(bits, len(tree)), "bits")
    need(is_number(gap), "gap")


def notes_by_label(checker):
    """For each label the string of the notes that the checker has with it, ascending."""
    notes = {}
    for label, note in tags_in(checker):
        notes[label] = notes.get(label, "") + note
    return notes


def tree_layout(checker, tree, gap):
    """The lists of the parents and of the turns of all places, and that of the readable beacons."""
    parents = parents_in(checker[0], tree)
    turns = turns_in(checker[0], tree, note_width(checker), gap)
    return parents, turns, readable_in(parents, turns, note_width(checker))


def told_notes(checker, tree, bits, layout):
    """For each readable beacon of a layout the note that the bits tell of it, None without any."""
    parents, turns, readable = layout
    width = note_width(checker)
    codes = codes_told(parents, turns, bits, readable, width)
    known = notes_by_label(checker)
    told = {}
    for beacon in readable:
        notes = {code_in(index, width): note for index, note in enumerate(known.get(tree[beacon].lower(), ""))}
        told[beacon] = notes.get(codes[beacon])
    return told


def reasons_in(checker, tree, bits, gap):
    """The list of the first reasons why each place says no, None for none."""
    layout = tree_layout(checker, tree, gap)
    parents, turns, readable = layout
    told = told_notes(checker, tree, bits, layout)
    reasons = bit_reasons(parents, turns, bits, note_width(checker))
    for beacon in readable:
        if reasons[beacon] is None and told[beacon] is None:
            reasons[beacon] = "note"
    for region in regions_by(parents, readable):
        top, _ = region
        if reasons[top] is None and not can_be_noted(checker, tree, told, region):
            reasons[top] = "region"
    return reasons


def bit_reasons(parents, turns, bits, width):
    """The list of the reasons by the bits alone: a turn at which none such is, or a code that is told otherwise."""
    nearest = nearest_above(parents, [turn == 0 for turn in turns])
    firsts = {}
    reasons = []
    for place, turn in enumerate(turns):
        if code_spot(turn, width) is None:
            reasons.append(None if bits[place] == ("1" if turn < 2 else "0") else "turn")
        else:
            first = firsts.setdefault((nearest[place], turn), bits[place])
            reasons.append(None if bits[place] == first else "code")
    return reasons


def can_be_noted(checker, tree, told, region):
    """Whether there are notes of the places of a region, with the told ones, by which all are let that are to be."""
    top, places = region
    if None in [told[place] for place in places if place in told]:
        return False
    children = children_in(checker[0], tree)
    found = {}
    for place in places[::-1]:
        if place in told and place != top:
            ways = {tree[place].lower() + told[place]: 1}
        elif children[place] == []:
            ways = {tag: 1 for tag in checker[2]}
        else:
            ways = ways_over(checker[3], [found[child] for child in children[place]])
        found[place] = {tag: ways[tag] for tag in ways if tag[0] == tree[place].lower() and ways[tag] > 0}
    tags = [tag for tag in found[top] if top not in told or tag[1] == told[top]]
    return any([top > 0 or tag in checker[1] for tag in tags])
