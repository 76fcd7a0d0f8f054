"""Values of every kind for each parameter: the first one that is not as stated is named."""

import unittest

from markladder import (abovenotes, arrows, belownotes, bitcodes, bitmarks, bundles, changes, choices, covers, coverchecker,
                        coverchoices, coverpapers, crossings, cutparts, fewest, fulls, goodrows, greatest, hardladders,
                        hardshapes, joining, leading, lengths, looks, marking, needs, nevers, notebits, noting, parts, peeling,
                        places, readings, rings, roots, roundmarks, rungpapers, rungs, running, seenmarks, shapesets,
                        surroundings, tablenotes, tableparts, tablesums, tagleading, telling, texts, turning, views,
                        walkerpapers, walkers, ways, woodevents, woods, woodtexts)
from values import (ANY, EVEN, PARITY, SIDED, STEPS, TURNS, TWINS, UNLIKE, check_parameters, is_int, refuses, ref_checker, ref_lot,
                    ref_lot_of, ref_machine, ref_mark, ref_mark_of, ref_marking, ref_notes, ref_number, ref_row, ref_set,
                    ref_shape, ref_standing, ref_surrounding, ref_table, ref_tree)

STEPS_TABLE = ('table', STEPS, ref_table)
STEPS_LOT = ('lot', 'abcd', ref_lot_of('abcd'))
STEPS_ONE = ('one', 'd', ref_mark_of('abcd'))
STEPS_OTHER = ('other', 'a', ref_mark_of('abcd'))
NUMBER = ('steps', 2, ref_number)
SHAPE_MANY = ('many', 2, lambda thing: is_int(thing) and thing in (2, 3))
TREE_MANY = ('many', 2, lambda thing: is_int(thing) and thing in (1, 2))
SHAPE = ('shape', '+.+..', lambda thing: ref_shape(2, thing))
TREE = ('tree', 'AbAab', lambda thing: ref_tree(2, thing))
PLACE = ('place', 2, ref_standing(5))
TABLE = ('table', UNLIKE, ref_table)


def of_length(length):
    return lambda thing: ref_marking(thing) and len(thing) == length


def is_whole(thing):
    return ref_marking(thing) and len(thing) == 5 and '?' not in thing


def are_names(thing):
    """Whether names suit the table UNLIKE."""
    if type(thing) is not tuple or not all(type(pair) is tuple and len(pair) == 2 for pair in thing):
        return False
    if not all(ref_mark(old) and ref_mark(new) for old, new in thing):
        return False
    if [old for old, _ in thing] != sorted({old for old, _ in thing}):
        return False
    return len({dict(thing).get(mark, mark) for mark in 'abc'}) == 3


def is_positive(thing):
    return ref_number(thing) and thing > 0


def are_lots(thing):
    """Whether thing is a pair of lots of the marks a and b."""
    return type(thing) is tuple and len(thing) == 2 and all(ref_lot_of('ab')(lot) for lot in thing)


class ParametersTest(unittest.TestCase):
    def check(self, function, *parameters):
        check_parameters(self, function, *parameters)

    def test_tableparts(self):
        self.check(tableparts.marks_of, TABLE)
        self.check(tableparts.tops_of, TABLE)
        self.check(tableparts.rows_of, TABLE, ('mark', 'b', ref_mark_of('abc')))
        self.check(tableparts.below, TABLE, ('mark', 'b', ref_mark_of('abc')))
        self.check(tableparts.rows_within, TABLE, ('lot', 'abz', ref_lot))

    def test_places_of_shapes(self):
        for name in ('parent_of', 'children_of', 'depth_of', 'height_of', 'part_of'):
            self.check(vars(places)[name], SHAPE_MANY, SHAPE, PLACE)

    def test_places_of_trees(self):
        self.check(places.labels_in, TREE_MANY, TREE)
        for name in ('label_at', 'tree_parent', 'tree_children', 'tree_part', 'surrounding_of'):
            self.check(vars(places)[name], TREE_MANY, TREE, PLACE)
        surrounding = ('surrounding', 'Ab_', lambda thing: ref_surrounding(2, thing))
        self.check(places.put_in, TREE_MANY, surrounding, TREE)

    def test_trees_and_shapes_for_two(self):
        self.check(places.bare, TREE)
        self.check(places.dressed, SHAPE, ('label', 'q', ref_mark))
        self.check(places.read_as_tree, SHAPE, ('marking', 'cbaab', is_whole))

    def test_changes_of_tables(self):
        lacked = ('row', 'aaa', lambda thing: ref_row(2, thing) and thing not in UNLIKE[1])
        held = ('row', 'abb', lambda thing: ref_row(2, thing) and thing in UNLIKE[1])
        lot = ('lot', 'abz', lambda thing: ref_lot(thing) and any(set(row) <= set(thing) for row in UNLIKE[1]))
        self.check(changes.with_row, TABLE, lacked)
        self.check(changes.without_row, TABLE, held)
        self.check(changes.cut_to, TABLE, lot)
        self.check(changes.renamed, TABLE, ('names', (('a', 'd'), ('z', 'a')), are_names))

    def test_changes_of_shapes(self):
        leaf = ('place', 1, lambda thing: ref_number(thing) and thing in (1, 3, 4))
        fork = ('place', 2, lambda thing: ref_number(thing) and thing in (0, 2))
        self.check(changes.sprouted, SHAPE_MANY, SHAPE, leaf)
        self.check(changes.pruned, SHAPE_MANY, SHAPE, fork)
        self.check(changes.grafted, SHAPE_MANY, SHAPE, PLACE, ('late', '+..', lambda thing: ref_shape(2, thing)))

    def test_changes_of_trees(self):
        self.check(changes.relabelled, TREE_MANY, TREE, PLACE, ('label', 'q', ref_mark))
        self.check(changes.tree_grafted, TREE_MANY, TREE, PLACE, ('late', 'Bcd', lambda thing: ref_tree(2, thing)))
        self.check(changes.tree_pruned, TREE_MANY, TREE, PLACE)

    def test_lines(self):
        any_shape = ('shape', '+.+..', lambda thing: ref_shape(2, thing) or ref_shape(3, thing))
        self.check(texts.table_line, TABLE)
        self.check(texts.shape_line, any_shape, ('marking', '?baab', of_length(5)))
        self.check(texts.machine_line, ('machine', EVEN, ref_machine))
        self.check(texts.checker_line, ('checker', PARITY, ref_checker))

    def test_readings(self):
        is_text = lambda thing: type(thing) is str
        self.check(readings.table_read, ('text', '2 abb baa', is_text))
        self.check(readings.shape_read, SHAPE_MANY, ('text', '+.+.. a?b?c', is_text))
        self.check(readings.machine_read, ('text', '1 ab 2 leaves 1 0 steps 1,0 0,1 good 0', is_text))
        self.check(readings.checker_read, ('text', '1 tops - leaves - rows -', is_text))

    def test_marking(self):
        told = ('marking', '?b?a?', of_length(5))
        for name in ('faults_of', 'is_right', 'tops_by', 'filled', 'count_filled', 'forced'):
            self.check(vars(marking)[name], TABLE, SHAPE, told)

    def test_fulls(self):
        height = ('height', 2, ref_number)
        self.check(fulls.full_shape, SHAPE_MANY, height)
        self.check(fulls.falling, STEPS_TABLE, STEPS_LOT)
        self.check(fulls.lasting, STEPS_TABLE, STEPS_LOT)
        self.check(fulls.never_height, STEPS_TABLE)
        self.check(fulls.full_marking, STEPS_TABLE, ('lot', 'acd', ref_lot_of('abcd')), ('mark', 'd', ref_mark_of('acd')),
                   height)

    def test_shapesets_and_nevers(self):
        thing = ('thing', ('ever', ('abb', 'baa')), lambda thing: True)
        self.check(shapesets.all_tops, STEPS_TABLE)
        self.check(shapesets.least_never, STEPS_TABLE)
        self.check(nevers.never_paper, STEPS_TABLE)
        self.check(nevers.lets_never, STEPS_TABLE, thing)

    def test_arrows(self):
        self.check(arrows.arrows_in, STEPS_TABLE, STEPS_LOT)
        self.check(arrows.arrow_row, STEPS_TABLE, STEPS_LOT, STEPS_ONE, STEPS_OTHER)
        self.check(arrows.ends_by, STEPS_TABLE, STEPS_LOT, ('mark', 'd', ref_mark_of('abcd')), NUMBER)
        self.check(arrows.way_of, STEPS_TABLE, STEPS_LOT, STEPS_ONE, STEPS_OTHER, NUMBER)
        self.check(arrows.least_way, STEPS_TABLE, STEPS_LOT, STEPS_ONE, STEPS_OTHER)

    def test_marks_outside_the_lot(self):
        narrow = ('lot', 'abc', ref_lot_of('abcd'))
        one, other = ('one', 'c', ref_mark_of('abc')), ('other', 'a', ref_mark_of('abc'))
        self.check(arrows.arrow_row, STEPS_TABLE, narrow, one, other)
        self.check(arrows.way_of, STEPS_TABLE, narrow, one, other, NUMBER)
        self.check(lengths.lengths_of, STEPS_TABLE, narrow, one, other)
        self.check(parts.leads, STEPS_TABLE, narrow, one, other)

    def test_lengths(self):
        self.check(lengths.lengths_of, STEPS_TABLE, STEPS_LOT, STEPS_ONE, STEPS_OTHER)
        self.check(lengths.is_length, STEPS_TABLE, STEPS_LOT, STEPS_ONE, STEPS_OTHER, NUMBER)
        self.check(lengths.how_many_ways, STEPS_TABLE, STEPS_LOT, STEPS_ONE, STEPS_OTHER, NUMBER)

    def test_parts(self):
        self.check(parts.parts_in, STEPS_TABLE, STEPS_LOT)
        self.check(parts.loose_parts, STEPS_TABLE, STEPS_LOT)
        self.check(parts.reach_of, STEPS_TABLE, STEPS_LOT, ('part', 'cd', lambda thing: thing == 'cd'))
        self.check(parts.leads, STEPS_TABLE, STEPS_LOT, STEPS_ONE, STEPS_OTHER)

    def test_ways(self):
        thing = ('thing', ('way', 'dca'), lambda thing: True)
        self.check(ways.way_paper, STEPS_TABLE, STEPS_LOT, STEPS_ONE, STEPS_OTHER, NUMBER)
        self.check(ways.lets_way, STEPS_TABLE, STEPS_LOT, STEPS_ONE, STEPS_OTHER, NUMBER, thing)

    def test_goodrows_and_roots(self):
        self.check(goodrows.next_lots, STEPS_TABLE, STEPS_LOT)
        self.check(goodrows.good_rows, STEPS_TABLE)
        self.check(goodrows.is_good_row, STEPS_TABLE, ('thing', ('abcd',), lambda thing: True))
        self.check(goodrows.root_of, STEPS_TABLE)
        self.check(goodrows.at_least, STEPS_TABLE, ('k', 2, ref_number))
        self.check(roots.root_paper, STEPS_TABLE)
        paper = ('root', ('abcd', 'cd', 'cd'), (('loose', 'cd', (('kept', 'cd', 2, (0, 1)),)), ('kept', 'ab', 2, (0, 1))))
        self.check(roots.lets_root, STEPS_TABLE, ('thing', paper, lambda thing: True))

    def test_ladder(self):
        self.check(hardladders.ladder, SHAPE_MANY, ('k', 2, lambda thing: is_int(thing) and 1 <= thing <= 4))

    def test_leading(self):
        other = ('other', STEPS, lambda thing: ref_table(thing) and thing[0] == 2)
        self.check(leading.is_leading, TABLE, other, ('names', (('a', 'c'),), lambda thing: True))
        self.check(leading.leading_of, TABLE, other)

    def test_walkers(self):
        lot = ('lot', 'ab', ref_lot_of('abc'))
        sides = ('lots', ('a', 'b'), are_lots)
        self.check(walkers.is_below_lot, TABLE, lot)
        self.check(walkers.below_lots, TABLE)
        self.check(walkers.are_side_lots, ('table', SIDED, ref_table), sides)
        self.check(walkers.side_lots, TABLE)
        self.check(walkers.alike_marks, TABLE)
        self.check(walkers.walk_marking, TABLE, ('lot', 'abc', lambda thing: thing == 'abc'), SHAPE)
        right = ('lots', ('a', 'b'), lambda thing: thing in (('a', 'b'), ('b', 'a')))
        self.check(walkers.side_marking, ('table', SIDED, ref_table), right, SHAPE)

    def test_rings_and_walker_papers(self):
        thing = ('thing', ('ring', ('a', 'b')), lambda thing: True)
        ring = ('ring', ('b', 'a'), lambda thing: thing in (('a', 'b'), ('b', 'a')))
        turns = ('table', TURNS, ref_table)
        self.check(rings.is_ring, turns, thing)
        self.check(rings.ring_of, turns)
        self.check(rings.ring_marking, turns, ring, SHAPE)
        self.check(rings.ring_paper, turns)
        self.check(rings.lets_ring, turns, thing)
        kind = ('kind', 'below', lambda thing: type(thing) is str and thing in ('below', 'sides'))
        self.check(walkerpapers.walker_paper, TABLE, kind)
        self.check(walkerpapers.lets_walker, TABLE, kind, ('thing', ('lot', 'abc'), lambda thing: True))

    def test_rungs_and_sums(self):
        is_rung = lambda thing: type(thing) is str and thing in ('0', '1', '9', '10')
        other = ('other', TURNS, lambda thing: ref_table(thing) and thing[0] == 2)
        self.check(rungs.rung_of, TABLE)
        self.check(rungs.is_at_least, ('rung', '10', is_rung), ('other', '9', is_rung))
        self.check(rungpapers.rung_paper, TABLE)
        paper = ('rung', 'below', ('lot', 'abc'), None)
        self.check(rungpapers.lets_rung, TABLE, ('thing', paper, lambda thing: True))
        for name in ('pairs_of', 'at_once', 'side_by_side'):
            self.check(vars(tablesums)[name], ('table', SIDED, ref_table), other)

    def test_peeling(self):
        g, l, k = [(name, 2, is_positive) for name in 'glk']
        self.check(peeling.rounds_of, SHAPE_MANY, SHAPE, g, l, k)
        self.check(peeling.left_after, SHAPE_MANY, SHAPE, g, l, ('i', 2, ref_number))
        self.check(peeling.least_g, SHAPE_MANY, SHAPE, l, k)
        self.check(hardshapes.hard_shape, SHAPE_MANY, ('i', 1, is_positive), ('s', 2, is_positive),
                   ('h', 2, lambda thing: ref_number(thing)))

    def test_round_markings(self):
        row = ('row', ('abcd', 'cd', 'cd'), lambda thing: thing in (('abcd',), ('abcd', 'cd', 'cd')))
        l = ('l', 2, lambda thing: is_positive(thing) and thing > 1)
        g = ('g', 1, is_positive)
        self.check(roundmarks.round_marking, STEPS_TABLE, row, SHAPE, g, l)
        self.check(roundmarks.agrees, STEPS_TABLE, row, SHAPE, g, l, ('marking', 'abbaa', is_whole))
        self.check(roundmarks.top_marking, STEPS_TABLE, SHAPE)

    def test_bitcodes(self):
        gap = ('gap', 2, ref_number)
        right = lambda thing: thing in ('abbaa', 'baabb')
        turns = ('table', TURNS, ref_table)
        self.check(bitcodes.width_of, TABLE)
        self.check(bitcodes.code_of, TABLE, ('mark', 'b', ref_mark_of('abc')))
        self.check(bitcodes.period_of, TABLE, gap)
        self.check(bitcodes.looks_of, TABLE, gap)
        for name in ('turns_of', 'beacons_of', 'readable_of', 'regions_of'):
            self.check(vars(bitcodes)[name], TABLE, SHAPE, gap)
        self.check(bitcodes.bits_of, turns, SHAPE, ('marking', 'abbaa', right), gap)

    def test_bitmarks(self):
        gap = ('gap', 0, ref_number)
        bits = ('bits', '1100000', lambda thing: type(thing) is str and len(thing) == 7 and set(thing) <= {*'01'})
        seven = ('shape', '+++....', lambda thing: ref_shape(2, thing))
        turns = ('table', TURNS, ref_table)
        self.check(bitmarks.told_code, turns, seven, bits, gap, ('place', 0, ref_standing(1)))
        self.check(bitmarks.marking_by, turns, seven, bits, gap)
        self.check(bitmarks.lets_bits, turns, ('shape', '.', lambda thing: ref_shape(2, thing)), ('bits', '1', lambda thing: True), gap)

    def test_views(self):
        bits = ('bits', '11000', lambda thing: type(thing) is str and len(thing) == 5 and set(thing) <= {*'01'})
        self.check(views.is_view, ('many', 2, lambda thing: True), ('thing', ('-', '0', 0), lambda thing: True))
        self.check(views.view_of, SHAPE_MANY, SHAPE, bits, PLACE, NUMBER)
        view = ('view', ('+..', '111', 1), lambda thing: thing == ('+..', '111', 1))
        self.check(seenmarks.mark_seen, TABLE, view, ('gap', 0, ref_number))

    def test_running_and_joining(self):
        machine, label = ('machine', EVEN, ref_machine), ('label', 'b', ref_mark_of('ab'))
        of_machine = lambda thing: ref_tree(1, thing) and set(thing.lower()) <= {'a', 'b'}
        self.check(running.standing_of, machine, ('tree', 'ABa', of_machine))
        self.check(running.has, machine, ('tree', 'Aq', lambda thing: ref_tree(1, thing)))
        self.check(running.met_at, machine, label)
        for function in (running.met, running.least_with, running.least_without, joining.least_machine):
            self.check(function, machine)
        other = ('other', EVEN, lambda thing: ref_machine(thing) and thing[:2] == (1, 'ab'))
        for function in (joining.both, joining.either, joining.parting):
            self.check(function, ('one', EVEN, ref_machine), other)

    def test_noting_and_telling(self):
        checker, tree = ('checker', PARITY, ref_checker), ('tree', 'ABa', lambda thing: ref_tree(1, thing))
        of_tree = lambda thing: ref_notes(thing) and len(thing) == 3
        self.check(noting.crying, checker, tree, ('notes', '011', lambda thing: of_tree(thing) and '?' not in thing))
        self.check(noting.is_noted, checker, tree, ('thing', '011', lambda thing: True))
        self.check(noting.noted, checker, tree, ('notes', '0?1', lambda thing: thing is None or of_tree(thing)))
        self.check(noting.count_noted, checker, tree)
        self.check(noting.tops_of_notes, checker, tree)
        self.check(telling.checker_machine, checker, ('labels', 'abz', lambda thing: ref_lot(thing) and thing != ''))
        for function in (telling.tells, telling.tell_fault):
            self.check(function, checker, ('machine', EVEN, lambda thing: ref_machine(thing) and thing[0] == 1))

    def test_surroundings_and_bundles(self):
        machine, label = ('machine', TWINS, ref_machine), ('label', 'b', ref_mark_of('ab'))
        some = lambda thing: (type(thing) is tuple and all(ref_standing(3)(one) for one in thing)
                              and list(thing) == sorted(set(thing)))
        self.check(surroundings.let_by, machine, ('surrounding', 'Ab_', lambda thing: ref_surrounding(2, thing)))
        self.check(surroundings.accept_bundles, machine)
        self.check(surroundings.surrounding_for, machine, ('yes', (1,), some), ('no', (), some))
        self.check(bundles.closed_bundles, machine, label)
        met = lambda thing: some(thing) and thing != ()
        self.check(bundles.closing, machine, label, ('bundle', (1,), met))
        self.check(bundles.shown_by, machine, label, ('bundle', (1,), lambda thing: thing in bundles.closed_bundles(TWINS, 'b')))

    def test_greatest_and_choices(self):
        machine = ('machine', EVEN, ref_machine)
        are_tags = lambda thing: ref_set(thing, lambda tag: tag in ('a0', 'a1', 'b0', 'b1'))
        for function in (greatest.greatest, greatest.tags_of, choices.least_choices, fewest.fewest_notes, fewest.fewest_in_all,
                         fewest.numbers_enough, coverchoices.cover_numbers, coverchoices.is_clear):
            self.check(function, machine)
        self.check(greatest.bundle_of, machine, ('tag', 'b1', lambda thing: thing in ('a0', 'a1', 'b0', 'b1')))
        for function in (choices.with_choice, choices.is_enough, coverchoices.are_covered):
            self.check(function, machine, ('tags', ('a0', 'b1'), are_tags))

    def test_tagleading(self):
        of_one = lambda thing: ref_checker(thing) and thing[0] == 1
        self.check(tagleading.useful, ('checker', PARITY, ref_checker))
        self.check(tagleading.is_tag_leading, ('one', PARITY, ref_checker), ('other', PARITY, of_one),
                   ('thing', (('a0', 'a0'),), lambda thing: True))

    def test_needs_and_covers(self):
        machine, label = ('machine', EVEN, ref_machine), ('label', 'b', ref_mark_of('ab'))
        thing = ('thing', ((0,), (1,)), lambda thing: True)
        for function in (needs.outer_bundles, needs.inner_bundles, needs.needs_at, crossings.most_crossing, covers.least_cover):
            self.check(function, machine, label)
        self.check(crossings.is_crossing, machine, label, thing)
        self.check(crossings.crossing, machine, label, ('size', 1, ref_number))
        self.check(covers.is_cover, machine, label, thing)
        self.check(covers.first_lack, machine, label, ('bundles', ((1,),), lambda thing: ref_set(thing, lambda one: one in ((0,), (1,)))))
        kind = ('kind', 'inner', lambda thing: type(thing) is str and thing in ('inner', 'outer'))
        self.check(coverchoices.cover_tags, machine, kind)
        self.check(coverpapers.cover_paper, machine, kind)
        paper = ('inner', ((((0,), (1,)), ()), (((0,), (1,)), ())))
        self.check(coverchecker.lets_cover, machine, ('thing', paper, lambda thing: True))

    def test_laid_notes(self):
        machine = ('machine', EVEN, ref_machine)
        row_machine = ('machine', EVEN, lambda thing: ref_machine(thing) and thing[0] == 1)
        is_even = lambda thing: ref_tree(1, thing) and thing.lower().count('a') % 2 == 0 and set(thing.lower()) <= {*'ab'}
        tree, any_tree = ('tree', 'ABa', is_even), ('tree', 'ABa', lambda thing: ref_tree(1, thing))
        for function in (belownotes.below_numbers, belownotes.below_checker):
            self.check(function, machine)
        for function in (abovenotes.above_numbers, abovenotes.above_checker, turning.turned_machine):
            self.check(function, row_machine)
        self.check(belownotes.below_notes, machine, tree)
        self.check(abovenotes.above_notes, row_machine, tree)
        self.check(belownotes.is_from_below, ('checker', PARITY, ref_checker), row_machine)
        self.check(turning.turned_tree, any_tree)
        self.check(turning.turned_notes, any_tree, ('notes', '0?1', lambda thing: ref_notes(thing) and len(thing) == 3))
        self.check(turning.turned_checker, ('checker', PARITY, lambda thing: ref_checker(thing) and thing[0] == 1))
        table = ('table', TURNS, lambda thing: ref_table(thing) and thing[0] == 2)
        self.check(tablenotes.table_checker, table)
        self.check(tablenotes.shapes_machine, table)

    def test_notebits(self):
        checker, tree = ('checker', PARITY, ref_checker), ('tree', 'Aa', lambda thing: ref_tree(1, thing))
        bits = ('bits', '11', lambda thing: type(thing) is str and len(thing) == 2 and set(thing) <= {*'01'})
        gap = ('gap', 3, ref_number)
        self.check(notebits.note_width, checker)
        self.check(notebits.note_bits, checker, tree, ('notes', '01', lambda thing: thing == '01'), gap)
        self.check(notebits.tree_regions, checker, tree, gap)
        self.check(notebits.notes_by, checker, tree, bits, gap)
        self.check(notebits.bits_say, checker, tree, bits, gap)
        self.check(notebits.why_no, checker, tree, bits, gap, ('place', 1, ref_standing(2)))

    def test_looks(self):
        machine, depth = ('machine', EVEN, ref_machine), ('depth', 1, ref_number)
        of_machine = lambda thing: ref_tree(1, thing) and set(thing.lower()) <= {'a', 'b'}
        self.check(cutparts.cut_part, TREE_MANY, TREE, PLACE, ('depth', 2, ref_number))
        for function in (cutparts.top_cuts, cutparts.inner_cuts, looks.tells_by_looks, looks.looks_paper):
            self.check(function, machine, depth)
        self.check(looks.passes, machine, ('tree', 'ABa', of_machine), depth)
        self.check(looks.least_look, machine)
        paper = ('tree', 'a', (('Aa', 0),))
        self.check(looks.lets_looks, machine, ('depth', 0, ref_number), ('thing', paper, lambda thing: True))

    def test_woods(self):
        any_thing = lambda thing: True
        self.check(woodevents.is_event, ('thing', ('bit', 0), any_thing))
        self.check(woodevents.is_log, ('thing', (('wood', TURNS, '.'),), any_thing))
        self.check(woodtexts.event_line, ('event', ('bit', 0), lambda thing: thing == ('bit', 0)))
        log = ('log', (('wood', TURNS, '.'), ('bit', 0)), lambda thing: type(thing) is tuple and thing[:1] == (('wood', TURNS, '.'),))
        self.check(woodtexts.log_lines, log)
        for thing in ANY:
            refuses(self, 'log', woods.replayed, thing)
        self.check(woodtexts.read_event, ('text', 'walk below', lambda thing: type(thing) is str))
        are_lines = lambda thing: type(thing) is list and all(type(line) is str for line in thing)
        self.check(woodtexts.read_log, ('lines', ['wood 2 abb', 'shape .'], are_lines))

    def test_one_mark_more(self):
        # A table of one row, and a lot without marks.
        alone = ('table', (2, ('abb',)), ref_table)
        self.check(changes.without_row, ('table', TURNS, ref_table), ('row', 'abb', lambda thing: thing in TURNS[1]))
        self.check(arrows.arrows_in, alone, ('lot', '', ref_lot_of('ab')))
        self.check(tableparts.rows_of, alone, ('mark', 'b', ref_mark_of('ab')))


if __name__ == "__main__":
    unittest.main()
