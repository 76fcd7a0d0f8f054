"""The examples of the document from its stage 19 on, as they are written there, heading by heading."""

import unittest

from examples import run_examples
from test_examples import STAGE_16, STAGE_17, VALUES

STAGE_19 = """
>>> from markladder.choices import is_enough, with_choice
>>> from markladder.fewest import fewest_in_all, fewest_notes, numbers_enough
>>> GAP = (1, 'a', 3, (0,), ((1, 2, 2),), (0, 2))
>>> [with_choice(GAP, ('a1', 'a2')), is_enough(GAP, ('a0', 'a1', 'a3')), fewest_in_all(GAP), numbers_enough(EVEN)]
[(1, ('a1',), ('a1',), ('a1a2', 'a2a1', 'a2a2')), False, (2, ('a1', 'a2')), ((2, 2),)]
"""

STAGE_20 = """
>>> from markladder.covers import first_lack, least_cover
>>> from markladder.coverchoices import cover_numbers, is_clear
>>> from markladder.needs import inner_bundles, needs_at
>>> RAFT = (1, 'ab', 4, (0, 3), ((0, 1, 2, 3), (1, 2, 1, 2)), (0, 1))
>>> [inner_bundles(RAFT, 'a'), needs_at(RAFT, 'b')]
[((0,), (0, 2), (1,), (1, 3)), (((1,), 1), ((1, 3), 1), ((1, 3), 3), ((2,), 2))]
>>> [least_cover(RAFT, 'a'), least_cover(GAP, 'a', kind='inner'), first_lack(RAFT, 'b', ((1, 3), (2,)))]
[((0, 1), (0, 2), (1, 3)), ((0, 2), (1, 2)), ((1,), 1)]
>>> MIX = (1, 'a', 4, (0,), ((1, 2, 3, 2),), (0, 1, 2))
>>> [cover_numbers(RAFT), is_clear(RAFT), cover_numbers(MIX), numbers_enough(MIX)]
[((3, 3, 4), (3, 3, 3)), True, ((3, 3, 4),), ((4,),)]
"""


class LaterExamplesTest(unittest.TestCase):
    def run_stages(self, *texts):
        # The points of these stages speak of values of the ones before.
        names = {}
        for text in (VALUES, STAGE_16, STAGE_17, *texts):
            run_examples(self, text, names)

    def test_stage_19(self):
        self.run_stages(STAGE_19)

    def test_stage_20(self):
        self.run_stages(STAGE_19, STAGE_20)


if __name__ == "__main__":
    unittest.main()
