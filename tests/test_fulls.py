"""Full shapes and what lasts ([5], [35])."""

import unittest

from markladder.fulls import falling, full_marking, full_shape, lasting, never_height
from markladder.marking import tops_by
from markladder.shapesets import least_never
from markladder.nevers import never_paper
from oracles import inside, lasting as ref_lasting, marks_in, places_in, right_markings, some_lots, some_tables
from values import DIST, LONG, LOST, STEPS, TABLES, THREES, TURNS, UNLIKE, refuses, same


class FullShapeTest(unittest.TestCase):
    def test_heights(self):
        for many, most in ((2, 8), (3, 5)):
            for height in range(most + 1):
                shape = full_shape(many, height)
                told = places_in(many, shape)
                same(self, len(shape), sum(many ** level for level in range(height + 1)))
                self.assertEqual({one['depth'] for one in told if not one['children']}, {height})
        same(self, [full_shape(2, 0), full_shape(3, 0), full_shape(2, 1), full_shape(many=3, height=2)],
             ['.', '.', '+..', '++...+...+...'])


class FallingTest(unittest.TestCase):
    def test_by_definition(self):
        for table in [*TABLES, *some_tables(22, 60, 'abcd', 7)]:
            for lot in some_lots(marks_in(table)):
                lots = [lot]
                while True:
                    tops = ''.join(sorted({row[0] for row in inside(table, lots[-1])}))
                    if tops == lots[-1]:
                        break
                    lots.append(tops)
                same(self, falling(table, lot), tuple(lots))
                same(self, lasting(table, lot), lots[-1])
                same(self, lasting(table, lot), ref_lasting(table, lot))

    def test_plain(self):
        same(self, falling(LOST, ''), ('',))
        same(self, falling(UNLIKE, 'a'), ('a', ''))
        same(self, falling(table=STEPS, lot='abcd'), ('abcd',))
        same(self, falling(STEPS, 'bcd'), ('bcd', 'cd'))
        same(self, lasting(table=STEPS, lot='acd'), 'cd')
        same(self, lasting(DIST, 'ab'), '')
        same(self, lasting((2, ('aaa',)), 'a'), 'a')

    def test_wrong_lots(self):
        for function in (falling, lasting):
            for lot in ('d', 'ba', 'aa', 'A', None, ('a',)):
                refuses(self, 'lot', function, TURNS, lot)


class FullMarkingTest(unittest.TestCase):
    def test_by_definition(self):
        for table in [LOST, TURNS, UNLIKE, DIST, *some_tables(23, 30, 'abc', 6)]:
            for lot in some_lots(marks_in(table)):
                for mark in lot:
                    for height in (0, 1, 2):
                        if height < 2 or table[0] == 2:
                            same(self, full_marking(table, lot, mark, height), self.least(table, lot, mark, height))

    def least(self, table, lot, mark, height):
        marking = mark + '?' * (len(full_shape(table[0], height)) - 1)
        found = right_markings(table, full_shape(table[0], height), marking)
        return min([one for one in found if set(one) <= set(lot)], default=None)

    def test_plain(self):
        same(self, full_marking(TURNS, 'ab', 'a', 3), 'a' + ('b' + 'abb' * 2) * 2)
        same(self, full_marking(LOST, 'abc', 'b', 3), None)
        same(self, full_marking(LOST, 'abc', 'c', 0), 'c')
        same(self, full_marking(LOST, 'abc', 'c', 1), None)
        same(self, full_marking(table=THREES, lot='b', mark='b', height=5), 'b' * 364)
        self.assertEqual(len(full_marking(UNLIKE, 'abc', 'c', 8)), 511)
        refuses(self, 'mark', full_marking, UNLIKE, 'ab', 'c', 1)
        refuses(self, 'height', full_marking, UNLIKE, 'ab', 'a', -1)
        refuses(self, 'height', full_marking, UNLIKE, 'ab', 'a', True)

    def test_consequences(self):
        for table in [*TABLES, *some_tables(24, 60, 'abcd', 8)]:
            for lot in some_lots(marks_in(table)):
                lots = falling(table, lot)
                for mark in lot:
                    for height in range(5):
                        at_height = lots[min(height, len(lots) - 1)]
                        marking = full_marking(table, lot, mark, height)
                        self.assertEqual(marking is None, mark not in at_height)


class NeverHeightTest(unittest.TestCase):
    def test_plain(self):
        same(self, [never_height(table) for table in (LOST, TURNS, UNLIKE, DIST, STEPS, LONG)],
             [3, None, None, None, None, None])
        same(self, never_height((2, ('abb',))), 2)
        same(self, never_height((3, ('abcd',))), 2)
        same(self, never_height((2, ('abb', 'bcc', 'cdd'))), 4)
        same(self, never_height(table=(2, ('aaa',))), None)

    def test_consequences(self):
        for table in [*TABLES[:6], *some_tables(25, 80, 'abcd', 6)]:
            marks = marks_in(table)
            height = never_height(table)
            self.assertEqual(height is None, lasting(table, marks) != '')
            self.assertEqual(height is None, never_paper(table)[0] == 'ever')
            if height is None:
                self.assertIs(least_never(table), None)
            else:
                same(self, len(falling(table, marks)), height + 1)
                self.assertTrue(len(least_never(table)) <= len(full_shape(table[0], height)))
            for level in range(5 if table[0] == 2 else 4):
                shape = full_shape(table[0], level)
                tops = tops_by(table, shape, '?' * len(shape))
                self.assertEqual(tops == '', height is not None and level >= height)
                self.assertTrue(set(lasting(table, marks)) <= set(tops))


if __name__ == "__main__":
    unittest.main()
