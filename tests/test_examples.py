"""The examples of the document, as they are written there, heading by heading."""

import unittest

from examples import run_examples

VALUES = """
>>> TURNS = (2, ('abb', 'baa'))
>>> UNLIKE = (2, ('abb', 'abc', 'acc', 'baa', 'bac', 'bcc', 'caa', 'cab', 'cbb'))
>>> DIST = (2, ('abc', 'bac', 'cab'))
>>> SIDED = (2, ('aab', 'bab'))
>>> LOST = (2, ('abc', 'baa', 'bbc'))
>>> EVEN = (1, 'ab', 2, (1, 0), ((1, 0), (0, 1)), (0,))
>>> TWINS = (2, 'ab', 3, (0, 1), ((0, 2, 2, 2, 1, 2, 2, 2, 2),) * 2, (0, 1))
"""

STAGE_1 = """
>>> from markladder.judges import lets_shape
>>> from markladder.judges import lets_table
>>> from markladder.judges import lets_checker
>>> from markladder.judges import lets_tree
>>> [lets_table(UNLIKE), lets_shape(2, '+.+..'), lets_tree(1, 'ABa'), lets_checker((1, (), ('a0', 'b0'), ('a1a0',)))]
[(3, 9), (5, 2, 2), (3, 2, 2), (3, 1)]
>>> lets_tree(2, 'ABa')
raises InvalidPaper(word='lacks', at=2)
"""

STAGE_2 = """
>>> from markladder.places import bare, dressed, read_as_tree
>>> from markladder.tableparts import below, rows_within
>>> from markladder.places import put_in, surrounding_of
>>> [below(UNLIKE, 'c'), below(LOST, 'c'), rows_within(UNLIKE, 'abz')]
['ab', '', ('abb', 'baa')]
>>> [surrounding_of(2, 'AAabb', 1), put_in(2, 'A_b', 'Aab'), bare('CbAab'), dressed('+.+..', 'b'), read_as_tree('+.+..', 'cbaab')]
['A_b', 'AAabb', '+.+..', 'BbBbb', 'CbAab']
"""

STAGE_3 = """
>>> from markladder.changes import renamed, without_row
>>> renamed(LOST, (('a', 'd'), ('z', 'a')))
(2, ('bbc', 'bdd', 'dbc'))
>>> without_row((2, ('aaa',)), 'aaa')
raises NotUsable(word='row', at=-1)
"""

STAGE_4 = """
>>> from markladder.readings import checker_read, machine_read
>>> from markladder.texts import machine_line, shape_line
>>> [shape_line('+..', 'a?b'), machine_line(EVEN), checker_read('1 tops - leaves a0 a1 rows a0a1')]
['+.. a?b', '1 ab 2 leaves 1 0 steps 1,0 0,1 good 0', (1, (), ('a0', 'a1'), ('a0a1',))]
>>> machine_read('1 ab 2 leaves 1 0 steps 1,0 0,2 good 0')
raises InvalidText(line=0, field=8)
>>> from markladder.objects import Machine
>>> one = Machine.read(machine_line(TWINS))
>>> [one('AAabb'), one.holds_for('Aab'), (one + 2).holds_for('Aab'), 'c' in one, one['a'][0], (one - 0).good_now]
[2, False, True, False, 0, (1,)]
"""

STAGE_5 = """
>>> from markladder.marking import faults_of, is_right
>>> [faults_of(TURNS, '+..', 'aab'), faults_of(TURNS, '+..', 'a?c'), faults_of(LOST, '++...', 'aabcb'), is_right(LOST, '++...', 'abbcc')]
[(0,), (2,), (0,), True]
>>> is_right(TURNS, '+..', 'ab')
raises NotUsable(word='marking', at=-1)
>>> from markladder.marking import count_filled, filled, forced, tops_by
>>> [tops_by(LOST, '+..', '???'), tops_by(LOST, '++..+..', '???????'), filled(LOST, '++...', '?????'), filled(LOST, '+..', '?aa')]
['ab', 'b', 'abaac', 'baa']
>>> [count_filled(UNLIKE, '+..', 'a??'), forced(TURNS, '+..', '?b?'), forced(UNLIKE, '+..', '?b?'), forced(TURNS, '+..', '?ab')]
[4, 'abb', '?b?', None]
"""

STAGE_6 = """
>>> from markladder.fulls import falling, full_marking, full_shape, lasting, never_height
>>> [full_shape(2, 2), full_shape(3, 1), falling(LOST, 'abc'), lasting(UNLIKE, 'ab')]
['++..+..', '+...', ('abc', 'ab', 'b', ''), 'ab']
>>> [full_marking(LOST, 'abc', 'b', 2), full_marking(LOST, 'abc', 'a', 2), full_marking(UNLIKE, 'abc', 'a', 2), never_height(LOST), never_height(DIST)]
['babcabc', None, 'abaabaa', 3, None]
>>> full_marking(UNLIKE, 'ab', 'c', 1)
raises NotUsable(word='mark', at=-1)
>>> from markladder.shapesets import all_tops, least_never
>>> [all_tops(LOST), least_never(LOST), least_never(UNLIKE)]
[(('', '+++..+..+..'), ('ab', '+..'), ('abc', '.'), ('b', '++..+..')), '+++..+..+..', None]
>>> from markladder.nevers import lets_never
>>> from markladder.nevers import never_paper
>>> [never_paper(LOST), lets_never(TURNS, never_paper(TURNS)), lets_never(UNLIKE, ('ever', ('abb', 'baa')))]
[('never', ('abc', 'ab', 'b', '')), False, False]
>>> lets_never(UNLIKE, ('ever', ('abb', 'bac')))
raises InvalidPaper(word='below', at=1)
"""

STAGE_7 = """
>>> from markladder.arrows import arrow_row, arrows_in, ends_by, least_way, way_of
>>> STEPS = (2, ('abb', 'baa', 'cac', 'cdd', 'dcc'))
>>> [arrows_in(STEPS, 'abcd'), arrows_in(STEPS, 'abc'), arrows_in(DIST, 'ab'), arrow_row(STEPS, 'abcd', 'c', 'a'), arrow_row(STEPS, 'abcd', 'a', 'c')]
[('ab', 'ba', 'ca', 'cc', 'cd', 'dc'), ('ab', 'ba', 'ca', 'cc'), (), 'cac', None]
>>> [[ends_by(STEPS, 'abcd', 'd', steps) for steps in range(4)], way_of(STEPS, 'abcd', 'd', 'b', 5), way_of(TURNS, 'ab', 'a', 'b', 4)]
[['d', 'c', 'acd', 'abcd'], 'dcabab', None]
>>> [least_way(TURNS, 'ab', 'a', 'a'), least_way(STEPS, 'abcd', 'd', 'b'), least_way(STEPS, 'abcd', 'b', 'd')]
['aba', 'dcab', None]
>>> ends_by(STEPS, 'abc', 'd', 2)
raises NotUsable(word='mark', at=-1)
>>> from markladder.lengths import how_many_ways, is_length, lengths_of
>>> [lengths_of(TURNS, 'ab', 'a', 'b'), lengths_of(STEPS, 'abcd', 'd', 'd'), lengths_of(STEPS, 'abcd', 'c', 'a'), lengths_of(STEPS, 'abcd', 'a', 'c')]
[((), 0, (1,), 2), ((0,), 2, (0,), 1), ((), 1, (0,), 1), ((), 0, (), 1)]
>>> [is_length(TURNS, 'ab', 'a', 'b', 10 ** 29), is_length(TURNS, 'ab', 'a', 'b', 10 ** 29 + 1), lengths_of(STEPS, 'abd', 'd', 'd')]
[False, True, ((0,), 1, (), 1)]
>>> [how_many_ways(UNLIKE, 'abc', 'a', 'a', steps) for steps in (0, 1, 2, 3, 4, 60)]
[1, 0, 2, 2, 6, 384307168202282326]
>>> [how_many_ways(STEPS, 'abcd', 'd', 'a', 4), how_many_ways(STEPS, 'abcd', 'a', 'd', 4)]
[3, 0]
"""

STAGE_8 = """
>>> from markladder.parts import leads, loose_parts, parts_in, reach_of
>>> [parts_in(STEPS, 'abcd'), loose_parts(STEPS, 'abcd'), parts_in(STEPS, 'abd'), parts_in(LOST, 'abc')]
[(('ab', 2), ('cd', 1)), ('cd',), (('ab', 2),), (('ab', 1),)]
>>> [reach_of(STEPS, 'abcd', 'cd'), reach_of(UNLIKE, 'abc', 'abc'), leads(STEPS, 'abcd', 'd', 'b'), leads(STEPS, 'abcd', 'b', 'd'), leads(STEPS, 'abd', 'd', 'd')]
[2, 2, True, False, False]
>>> reach_of(STEPS, 'abcd', 'ab')
raises NotUsable(word='part', at=-1)
>>> from markladder.ways import lets_way
>>> from markladder.ways import way_paper
>>> [lets_way(STEPS, 'abcd', 'c', 'a', 3, ('way', 'ccca')), lets_way(TURNS, 'ab', 'a', 'a', 3, ('none', ('a', 'b', 'a', 'b'))), way_paper(TURNS, 'ab', 'b', 'a', 1)]
[True, False, ('way', 'ba')]
>>> lets_way(TURNS, 'ab', 'a', 'a', 3, ('none', ('a', 'ab', 'b', 'b')))
raises InvalidPaper(word='lot', at=2)
"""

STAGE_9 = """
>>> STEPS = (2, ('abb', 'baa', 'cac', 'cdd', 'dcc'))
>>> LONG = (2, ('abb', 'baa', 'cac', 'cdd', 'dcc', 'ece', 'eff', 'fee'))
>>> from markladder.goodrows import at_least, good_rows, is_good_row, next_lots, root_of
>>> [next_lots(STEPS, 'abcd'), next_lots(TURNS, 'ab'), next_lots(LOST, 'abc'), next_lots(UNLIKE, 'abc')]
[(('cd', 'cd'),), (), (('ab', ''),), (('abc', 'abc'),)]
>>> [good_rows(table) for table in (TURNS, UNLIKE, STEPS, LOST, LONG)]
[(('ab',),), (('abc',),), (('abcd', 'cd', 'cd'),), (), (('abcdef', 'cd', 'cd'), ('abcdef', 'ef', 'ef'))]
>>> [root_of(table) for table in (TURNS, UNLIKE, DIST, SIDED, STEPS, LOST, LONG)]
[1, None, None, None, 2, 0, 2]
>>> [is_good_row(STEPS, ('abcd',)), is_good_row(STEPS, ('abcd', 'cd')), is_good_row(UNLIKE, ('abc',) * 5), at_least(STEPS, 3), at_least(UNLIKE, 10 ** 20)]
[True, False, True, False, True]
"""

STAGE_10 = """
>>> from markladder.roots import lets_root
>>> from markladder.roots import root_paper
>>> [lets_root(table, root_paper(table)) for table in (TURNS, UNLIKE, STEPS, LOST, LONG)]
[1, None, 2, 0, 2]
>>> KEPT, INNER = ('kept', 'ab', 2, (0, 1)), ('loose', 'cd', (('kept', 'cd', 2, (0, 1)),))
>>> [lets_root(STEPS, ('root', ('abcd', 'cd', 'cd'), (INNER, KEPT))), lets_root(LOST, ('never', ('abc', 'ab', 'b', '')))]
[2, 0]
>>> lets_root(STEPS, ('root', ('abcd', 'cd', 'cd'), (KEPT, INNER)))
raises InvalidPaper(word='arrow', at=())
>>> from markladder.hardladders import ladder
>>> from markladder.leading import is_leading, leading_of
>>> [leading_of(TURNS, STEPS), leading_of(STEPS, TURNS), leading_of(TURNS, UNLIKE), is_leading(TURNS, UNLIKE, (('a', 'c'), ('b', 'a')))]
[(('a', 'a'), ('b', 'b')), None, (('a', 'a'), ('b', 'b')), True]
>>> [ladder(2, 2) == STEPS, ladder(3, 2), [root_of(ladder(2, k)) for k in (1, 2, 3, 4)]]
[True, (3, ('abbb', 'baaa', 'cacc', 'cddd', 'dccc')), [1, 2, 3, 4]]
"""

STAGE_11 = """
>>> from markladder.walkers import alike_marks, below_lots, side_lots
>>> [below_lots(UNLIKE), below_lots((2, ('aaa', 'abb', 'bab', 'bbb')))]
[('abc',), ('a', 'ab', 'b')]
>>> [side_lots(SIDED), side_lots(DIST), alike_marks((2, ('aaa', 'abb')))]
[(('a', 'b'), ('b', 'a')), (), 'a']
>>> from markladder.walkers import side_marking, walk_marking
>>> [walk_marking(UNLIKE, 'abc', '++..+..'), side_marking(SIDED, ('a', 'b'), '++..+..')]
['abaabaa', 'aaabbab']
>>> from markladder.rings import is_ring, ring_marking, ring_of
>>> [is_ring(TURNS, ('b', 'a')), is_ring(UNLIKE, ('a', 'b', 'c')), ring_of(SIDED)]
[True, True, None]
>>> ring_marking(UNLIKE, ('a', 'b', 'c'), '++...')
'abccb'
>>> from markladder.walkerpapers import lets_walker
>>> DEAD = (('a', ('aa', ())), ('b', ('bb', ())), ('c', ('cc', ())))
>>> [lets_walker(DIST, 'below', ('none', DEAD)), lets_walker(SIDED, 'sides', ('lots', ('a', 'b')))]
[False, True]
>>> lets_walker(UNLIKE, 'below', ('none', DEAD))
raises InvalidPaper(word='branches', at=('a',))
>>> from markladder.rings import lets_ring, ring_paper
>>> [lets_ring(TURNS, ring_paper(TURNS)), lets_ring(DIST, ('none', 'bca'))]
[True, False]
"""

STAGE_12 = """
>>> from markladder.rungs import is_at_least, rung_of
>>> [rung_of(table) for table in (LOST, TURNS, DIST, SIDED, UNLIKE)]
['0', '1', 'log', 'sides', 'below']
>>> [is_at_least('10', '9'), is_at_least('sides', 'below')]
[True, False]
>>> from markladder.rungpapers import lets_rung, rung_paper
>>> [lets_rung(table, rung_paper(table)) for table in (LOST, DIST, SIDED)]
['0', 'log', 'sides']
>>> from markladder.tablesums import at_once, pairs_of, side_by_side
>>> [pairs_of(SIDED, TURNS), at_once(SIDED, TURNS), side_by_side(SIDED, TURNS)]
[('aa', 'ab', 'ba', 'bb'), (2, ('abd', 'bac', 'cbd', 'dac')), (2, ('aab', 'bab', 'cdd', 'dcc'))]
>>> at_once((2, ('aab',)), (2, ('aab',)))
(2, ('aad', 'abc'))
"""

STAGE_13 = """
>>> from markladder.peeling import least_g, left_after, rounds_of
>>> COMB, DEEP = '+.+.+.+..', '+.++..++..+..'
>>> [rounds_of(2, COMB, 1, 2, 2)[4:7], rounds_of(2, DEEP, 1, 1, 3)[:3], rounds_of(2, DEEP, 1, 1, 3)[6]]
[(('stretch', 1), ('peel', 1), ('peel', 2)), (('stretch', 1), ('peel', 1), ('stretch', 2)), ('peel', 3)]
>>> [left_after(2, COMB, 1, 2, 1), left_after(2, COMB, 1, 4, 1), left_after(2, COMB, 1, 4, 0), left_after(2, COMB, 1, 2, 10 ** 20)]
[1, 4, 9, 0]
>>> [least_g(2, COMB, 1, 1), least_g(2, COMB, 4, 2), least_g(2, COMB, 2, 2), least_g(3, '+...', 1, 7)]
[5, 3, 1, 1]
>>> rounds_of(2, COMB, 0, 2, True)
raises NotUsable(word='g', at=-1)
>>> from markladder.roundmarks import agrees, round_marking, top_marking
>>> STEPS, ROW = (2, ('abb', 'baa', 'cac', 'cdd', 'dcc')), ('abcd', 'cd', 'cd')
>>> [agrees(STEPS, ROW, COMB, 1, 2, marking) for marking in ('cacacacdd', 'abbaabbaa', round_marking(STEPS, ROW, COMB, 1, 2))]
[True, False, True]
>>> [agrees(TURNS, ('ab',), COMB, 1, 1, top_marking(TURNS, COMB)), agrees(TURNS, ('ab',), '.', 3, 1, 'z')]
[True, False]
>>> top_marking(LOST, '.')
raises NoMarking(shape='.')
>>> round_marking(STEPS, ROW, COMB, 1, 1)
raises NotUsable(word='l', at=-1)
>>> from markladder.hardshapes import hard_shape
>>> [hard_shape(2, 2, 2, 0), hard_shape(3, 1, 5, 1), len(hard_shape(2, 2, 10, 2)), hard_shape(2, 3, 1, 0)]
['+++...++...', '+...', 703, '++++..+..++..+..+++..+..++..+..']
>>> hard_shape(2, 0, 1, 0)
raises NotUsable(word='i', at=-1)
"""

STAGE_14 = """
>>> COMB = '+.' * 8 + '.'
>>> from markladder.bitcodes import bits_of, code_of, looks_of, period_of, turns_of, width_of
>>> [width_of(TURNS), [code_of(UNLIKE, mark) for mark in 'abc'], period_of(UNLIKE, 0), period_of(TURNS, 3), looks_of(UNLIKE, 0), turns_of(TURNS, COMB, 0)[9:]]
[1, ['00', '01', '10'], 7, 8, 23, (0, 0, 1, 1, 2, 2, 3, 3)]
>>> bits_of(TURNS, COMB, 'abbaabbaabbaabbaa', 0)
'11100000011110011'
>>> from markladder.bitcodes import beacons_of, readable_of, regions_of
>>> [beacons_of(TURNS, COMB, 0), readable_of(TURNS, COMB, 0), regions_of(TURNS, COMB, 0)]
[(0, 9, 10), (0, 10), ((0, (0, 1, 2, 3, 4, 5, 6, 7, 8, 9, 10)), (10, (10, 11, 12, 13, 14, 15, 16)))]
>>> from markladder.bitmarks import marking_by, told_code
>>> BITS = '11100000011110011'
>>> [told_code(TURNS, COMB, BITS, 0, 10), marking_by(TURNS, COMB, BITS, 0), marking_by(TURNS, COMB, BITS[:15] + '00', 0)]
['1', 'abbaabbaabbaabbaa', None]
>>> told_code(TURNS, COMB, BITS, 0, 9)
raises NotUsable(word='place', at=-1)
>>> from markladder.bitmarks import lets_bits
>>> lets_bits(TURNS, COMB, BITS[:16] + '0', 0)
raises InvalidPaper(word='code', at=16)
>>> lets_bits(TURNS, COMB, BITS[:15] + '00', 0)
raises InvalidPaper(word='region', at=0)
>>> lets_bits(UNLIKE, COMB, '11100110011001111', 0)
raises InvalidPaper(word='mark', at=0)
"""

STAGE_15 = """
>>> from markladder.views import is_view, view_of
>>> [view_of(2, COMB, BITS, 6, 2), view_of(2, COMB, BITS, 0, 1), view_of(2, COMB, BITS, 6, 0)]
[('^+_+.+.+.-', '1_0000011', 4), ('+.-', '111', 0), ('^-', '0', 0)]
>>> [is_view(2, ('^+_+.+.+.-', '1_0000011', 4)), is_view(2, ('+.-', '111', 3)), is_view(3, ('+.-', '111', 0))]
[True, False, False]
>>> from markladder.seenmarks import mark_seen
>>> [mark_seen(TURNS, view_of(2, COMB, BITS, place, 15), 0) for place in (0, 6, 9, 16)]
['a', 'b', 'b', 'a']
>>> from markladder.helpers import Helper
>>> one = Helper(TURNS, 0)
>>> [one['b'], list(Helper(UNLIKE, 0))[1:], one.period_now, one.sight_now, (one + 2).period_now, one(COMB, 'abbaabbaabbaabbaa') == BITS]
['1', [('b', '01'), ('c', '10')], 5, 15, 7, True]
>>> one.seen(one.view(COMB, BITS, 13))
'b'
"""

STAGE_16 = """
>>> from markladder.running import has, met
>>> [has(EVEN, 'Ac'), met(TWINS)]
[False, ((0, 'a'), (1, 'b'), (2, 'Aab'))]
>>> from markladder.joining import least_machine, parting
>>> ALL = (1, 'ab', 1, (0, 0), ((0,), (0,)), (0,))
>>> [parting(EVEN, ALL), least_machine(EVEN)]
['a', (1, 'ab', 2, (0, 1), ((1, 0), (0, 1)), (1,))]
"""

STAGE_17 = """
>>> from markladder.noting import crying, noted, tops_of_notes
>>> PARITY = (1, ('a0', 'b0'), ('a1', 'b0'), ('a0a1', 'a0b1', 'a1a0', 'a1b0', 'b0a0', 'b0b0', 'b1a1', 'b1b1'))
>>> [crying(PARITY, 'Aa', '10'), noted(PARITY, 'ABa'), tops_of_notes(PARITY, 'a')]
[(0, 1), '011', ('a1',)]
>>> from markladder.telling import tell_fault, tells
>>> [tells(PARITY, EVEN), tell_fault(PARITY, ALL)]
[True, 'a']
"""

STAGE_18 = """
>>> from markladder.surroundings import accept_bundles, let_by
>>> GAP = (1, 'a', 3, (0,), ((1, 2, 2),), (0, 2))
>>> [let_by(EVEN, 'BA_'), accept_bundles(GAP)]
[(1,), ((0, 1, 2), (0, 2), (1, 2))]
>>> from markladder.bundles import closed_bundles, closing
>>> [closed_bundles(GAP, 'a'), closing(GAP, 'a', (0,))]
[((0, 1, 2), (0, 2), (1, 2), (2,)), (0, 2)]
>>> from markladder.greatest import bundle_of, greatest
>>> [greatest(EVEN) == PARITY, bundle_of(TWINS, 'b1')]
[True, (0, 1)]
>>> from markladder.tagleading import leading_tags, useful
>>> [useful(PARITY), leading_tags(PARITY, EVEN)[1]]
[('a0', 'a1', 'b0', 'b1'), ('a1', 'a1')]
"""


class ExamplesTest(unittest.TestCase):
    def run_stage(self, *texts):
        names = {}
        for text in (VALUES, *texts):
            run_examples(self, text, names)

    def test_stage_1(self):
        self.run_stage(STAGE_1)

    def test_stage_2(self):
        self.run_stage(STAGE_2)

    def test_stage_3(self):
        self.run_stage(STAGE_3)

    def test_stage_4(self):
        self.run_stage(STAGE_4)

    def test_stage_5(self):
        self.run_stage(STAGE_5)

    def test_stage_6(self):
        self.run_stage(STAGE_6)

    def test_stage_7(self):
        self.run_stage(STAGE_7)

    def test_stage_8(self):
        # The points of this stage speak of a value of the stage before.
        self.run_stage(STAGE_7, STAGE_8)

    def test_stage_9(self):
        self.run_stage(STAGE_9)

    def test_stage_10(self):
        # The points of this stage speak of values of the stage before.
        self.run_stage(STAGE_9, STAGE_10)

    def test_stage_11(self):
        self.run_stage(STAGE_11)

    def test_stage_12(self):
        self.run_stage(STAGE_12)

    def test_stage_13(self):
        self.run_stage(STAGE_13)

    def test_stage_14(self):
        self.run_stage(STAGE_14)

    def test_stage_15(self):
        # The points of this stage speak of values of the stage before.
        self.run_stage(STAGE_14, STAGE_15)

    def test_stage_16(self):
        self.run_stage(STAGE_16)

    def test_stage_17(self):
        # The points of this stage speak of a value of the stage before.
        self.run_stage(STAGE_16, STAGE_17)

    def test_stage_18(self):
        # The points of this stage speak of a value of the stage before.
        self.run_stage(STAGE_16, STAGE_17, STAGE_18)


if __name__ == "__main__":
    unittest.main()
