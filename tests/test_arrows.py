"""Arrows and ways ([5], [39] to [41])."""

import unittest

from markladder.arrows import arrow_row, arrows_in, ends_by, least_way, way_of
from oracles import arrow_set, ends, inside, marks_in, some_lots, some_tables, ways
from values import DIST, LONG, LOST, STEPS, TABLES, THREES, TURNS, UNLIKE, refuses, same

SOME = [*TABLES, *some_tables(31, 40, 'abcd', 7)]


def pairs(lot):
    return [(one, other) for one in lot for other in lot]


class ArrowsTest(unittest.TestCase):
    def test_arrows(self):
        for table in SOME:
            for lot in some_lots(marks_in(table)):
                same(self, arrows_in(table, lot), tuple(arrow_set(table, lot)))
                for one, other in pairs(lot):
                    rows = [row for row in inside(table, lot) if row[0] == one and other in row[1:]]
                    same(self, arrow_row(table, lot, one, other), min(rows, default=None))

    def test_ends(self):
        for table in SOME:
            for lot in some_lots(marks_in(table))[-6:]:
                for mark in lot:
                    for steps, found in enumerate(ends(table, lot, mark, 12)):
                        same(self, ends_by(table, lot, mark, steps), ''.join(sorted(found)))

    def test_many_steps(self):
        same(self, ends_by(TURNS, 'ab', 'a', 60), 'a')
        same(self, ends_by(TURNS, 'ab', 'a', 61), 'b')
        same(self, ends_by(TURNS, 'ab', 'a', 10 ** 29 + 1), 'b')
        same(self, ends_by(UNLIKE, 'abc', 'a', 60), 'abc')
        same(self, ends_by(table=LOST, lot='abc', mark='c', steps=0), 'c')
        same(self, ends_by(LOST, 'abc', 'c', 1), '')
        same(self, ends_by(LOST, 'abc', 'c', 60), '')
        same(self, ends_by((2, ('aaa',)), 'a', 'a', 0), 'a')
        for table in SOME:
            lot = marks_in(table)
            for mark in lot:
                same(self, ends_by(table, lot, mark, 60), ''.join(sorted(ends(table, lot, mark, 60)[60])))

    def test_ways(self):
        for table in SOME:
            for lot in some_lots(marks_in(table))[-4:]:
                for one in lot:
                    for steps in range(4):
                        found = ways(table, lot, one, steps)
                        for other in lot:
                            least = min([way for way in found if way[-1] == other], default=None)
                            same(self, way_of(table, lot, one, other, steps), least)

    def test_least_ways(self):
        for table in SOME:
            for lot in some_lots(marks_in(table))[-3:]:
                for one in lot:
                    found = [ways(table, lot, one, steps) for steps in range(1, len(lot) + 2)] if len(lot) < 5 else None
                    for other in lot if found else '':
                        least = [min(way for way in group if way[-1] == other) for group in found
                                 if any(way[-1] == other for way in group)]
                        same(self, least_way(table, lot, one, other), least[0] if least else None)

    def test_plain(self):
        same(self, least_way(LONG, 'abcdef', 'f', 'b'), 'fecab')
        same(self, least_way(LOST, 'abc', 'c', 'c'), None)
        same(self, least_way(UNLIKE, 'abc', 'a', 'a'), 'aba')
        same(self, least_way((2, ('aaa',)), 'a', 'a', 'a'), 'aa')
        same(self, way_of(UNLIKE, 'abc', 'a', 'a', 60), 'ab' * 30 + 'a')
        same(self, way_of(table=UNLIKE, lot='abc', one='a', other='c', steps=60), 'ab' * 30 + 'c')
        same(self, way_of(TURNS, 'ab', 'a', 'a', 0), 'a')
        same(self, way_of(TURNS, 'ab', 'a', 'b', 0), None)
        same(self, way_of(THREES, 'b', 'b', 'b', 60), 'b' * 61)
        same(self, arrows_in(DIST, ''), ())
        same(self, arrow_row(table=UNLIKE, lot='abc', one='b', other='a'), 'baa')
        same(self, arrow_row(UNLIKE, 'bc', 'b', 'c'), 'bcc')

    def test_consequences(self):
        for table in SOME:
            lot = marks_in(table)
            for mark in lot:
                for first, second in ((0, 3), (1, 1), (2, 3), (5, 0), (7, 9)):
                    together = {end for middle in ends_by(table, lot, mark, first)
                                for end in ends_by(table, lot, middle, second)}
                    same(self, ends_by(table, lot, mark, first + second), ''.join(sorted(together)))
                for narrow in some_lots(lot)[-4:]:
                    self.assertTrue(set(arrows_in(table, narrow)) <= set(arrows_in(table, lot)))
                    if mark in narrow:
                        self.assertTrue(set(ends_by(table, narrow, mark, 5)) <= set(ends_by(table, lot, mark, 5)))
                if all(any(row[0] == one for row in inside(table, lot)) for one in lot):
                    self.assertTrue(all(ends_by(table, lot, mark, steps) for steps in range(20)))

    def test_wrong_marks(self):
        for mark in ('d', 'z', 'ab', '', 'A', None, ('a',), 0, True):
            refuses(self, 'mark', ends_by, STEPS, 'abc', mark, 2)
            refuses(self, 'one', way_of, STEPS, 'abc', mark, 'z', -1)
            refuses(self, 'other', way_of, STEPS, 'abc', 'a', mark, -1)
            refuses(self, 'one', least_way, STEPS, 'abc', mark, None)
            refuses(self, 'other', arrow_row, STEPS, 'abc', 'a', mark)
        for steps in (-1, True, None, '2', (2,)):
            refuses(self, 'steps', ends_by, STEPS, 'abc', 'a', steps)
            refuses(self, 'steps', way_of, STEPS, 'abc', 'a', 'b', steps)
        for lot in ('abz', 'ba', None, ('a',)):
            refuses(self, 'lot', arrows_in, STEPS, lot)
        refuses(self, 'one', least_way, STEPS, '', 'a', 'a')


if __name__ == "__main__":
    unittest.main()
