"""The examples of the document from its stage 19 on, as they are written there, heading by heading."""

import unittest

from examples import run_examples
from test_examples import STAGE_16, STAGE_17, VALUES

STAGE_19 = """
>>> from markladder.choices import is_enough, with_choice
>>> from markladder.fewest import fewest_in_all, fewest_notes, numbers_enough
>>> GAP = (1, 'a', 3, (0,), ((1, 2, 2),), (0, 2))
>>> [with_choice(GAP, ('a1', 'a2')), is_enough(GAP, ('a0', 'a1', 'a3')), fewest_in_all(GAP), numbers_enough(EVEN)]
[(1, ('a1',), ('a1',), ('a1a2', 'a2a1', 'a2a2')), False, (2, ('a1', 'a2')), ((2, 2),)]
"""

STAGE_20 = """
>>> from markladder.covers import first_lack, least_cover
>>> from markladder.coverchoices import cover_numbers, is_clear
>>> from markladder.needs import inner_bundles, needs_at
>>> RAFT = (1, 'ab', 4, (0, 3), ((0, 1, 2, 3), (1, 2, 1, 2)), (0, 1))
>>> [inner_bundles(RAFT, 'a'), needs_at(RAFT, 'b')]
[((0,), (0, 2), (1,), (1, 3)), (((1,), 1), ((1, 3), 1), ((1, 3), 3), ((2,), 2))]
>>> [least_cover(RAFT, 'a'), least_cover(GAP, 'a', kind='inner'), first_lack(RAFT, 'b', ((1, 3), (2,)))]
[((0, 1), (0, 2), (1, 3)), ((0, 2), (1, 2)), ((1,), 1)]
>>> MIX = (1, 'a', 4, (0,), ((1, 2, 3, 2),), (0, 1, 2))
>>> [cover_numbers(RAFT), is_clear(RAFT), cover_numbers(MIX), numbers_enough(MIX)]
[((3, 3, 4), (3, 3, 3)), True, ((3, 3, 4),), ((4,),)]
"""

STAGE_21 = """
>>> from markladder.abovenotes import above_notes, above_numbers
>>> from markladder.belownotes import below_checker, below_notes, below_numbers, is_from_below
>>> from markladder.tablenotes import shapes_machine, table_checker
>>> [below_numbers(RAFT), above_numbers(RAFT), below_notes(GAP, 'AAAa'), above_notes(GAP, 'AAAa')]
[(4, 3), (3, 3), '3321', '1200']
>>> [is_from_below(below_checker(GAP), GAP), is_from_below(with_choice(GAP, ('a1', 'a2')), GAP)]
[True, False]
>>> [table_checker(TURNS)[3], shapes_machine(LOST)[2], fewest_notes(shapes_machine(LOST))]
[('a0a1a1', 'a1a0a0'), 4, 3]
"""

STAGE_22 = """
>>> from markladder.notebits import bits_say, note_bits, note_width, notes_by
>>> [note_width(PARITY), note_bits(PARITY, 'BBBBBABBBa', '0000001111', 0), notes_by(PARITY, 'BBBBBABBBa', '1100011000', 0)]
[1, '1100011000', '0000001111']
>>> [bits_say(PARITY, 'BBBBBABBBa', bits, 0) for bits in ('1100011000', '1101011000', '1100011010', '1000011000')]
[(), (0,), (0, 5), (1,)]
"""

STAGE_23 = """
>>> from markladder.cutparts import cut_part, inner_cuts
>>> from markladder.looks import least_look, lets_looks, passes
>>> IN_TURN = (1, 'ab', 3, (0, 1), ((2, 0, 2), (1, 2, 2)), (0, 1))
>>> [cut_part(2, 'ABabb', 0, 1), inner_cuts(IN_TURN, 1), passes(IN_TURN, 'Aa', 0), least_look(IN_TURN), least_look(EVEN)]
['Abb', ('Ab', 'Ba', 'a', 'b'), True, 1, None]
>>> [lets_looks(IN_TURN, 1, ('closed', (('Ab', 0), ('Ba', 1), ('a', 0), ('b', 1)))), lets_looks(IN_TURN, 0, ('tree', 'Aa', (('a', 0), ('Ba', 1))))]
[True, False]
"""

STAGE_24 = """
>>> from markladder.woods import Wood
>>> wood = Wood(UNLIKE, '.')
>>> [wood.sprout(0), wood.walk('below'), wood.laid_now, wood.walked_now, wood[1], wood.bit(2)]
[None, None, 'abb', 'baa', ('1', 'b', 'a'), ('turn', 2)]
>>> [wood.barred(('helper', 'aab')), wood.tried(('helper', 'cab')), wood.undo(), wood.counts()]
['right', ('+..', '111'), ('bit', 2), (4, 4)]
>>> from markladder.desk import Desk
>>> desk = Desk(TURNS, '+..')
>>> [desk.say(row) for row in ('bit 1', 'laid', 'bars walk sides', 'helper baa', 'laid', 'log', 'wood 2 aaa', 'shape')]
['turn 1', 'abb', 'none', '-', 'abb', 'bit 1 / helper baa', 'ok', '.']
"""


class LaterExamplesTest(unittest.TestCase):
    def run_stages(self, *texts):
        # The points of these stages speak of values of the ones before.
        names = {}
        for text in (VALUES, STAGE_16, STAGE_17, *texts):
            run_examples(self, text, names)

    def test_stage_19(self):
        self.run_stages(STAGE_19)

    def test_stage_20(self):
        self.run_stages(STAGE_19, STAGE_20)

    def test_stage_21(self):
        self.run_stages(STAGE_19, STAGE_20, STAGE_21)

    def test_stage_22(self):
        self.run_stages(STAGE_22)

    def test_stage_23(self):
        self.run_stages(STAGE_23)

    def test_stage_24(self):
        self.run_stages(STAGE_24)


if __name__ == "__main__":
    unittest.main()
