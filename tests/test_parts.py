"""Parts of a lot ([5], [44], [45])."""

import math
import unittest

from markladder.arrows import least_way
from markladder.lengths import lengths_of
from markladder.parts import leads, loose_parts, parts_in, reach_of
from oracles import ends, marks_in, some_lots, some_tables
from values import ANY, DIST, LONG, LOST, STEPS, TABLES, TURNS, UNLIKE, refuses, same

CIRCLE = (2, ('abb', 'bcc', 'cdd', 'dee', 'eff', 'faa'))
SOME = [*TABLES, CIRCLE, *some_tables(34, 60, 'abcd', 6), *some_tables(35, 20, 'abcdefgh', 14)]
MOST = 70


class PartsTest(unittest.TestCase):
    def check_lot(self, table, lot):
        found = {mark: ends(table, lot, mark, MOST) for mark in lot}
        later = {mark: set().union(*found[mark][1:]) for mark in lot}
        told = set()
        for mark in lot:
            part = ''.join(other for other in lot if other in later[mark] and mark in later[other])
            if part:
                lengths = [steps for steps in range(1, MOST + 1) for one in part if one in found[one][steps]]
                told.add((part, math.gcd(*lengths)))
            for other in lot:
                same(self, leads(table, lot, mark, other), other in later[mark])
        same(self, parts_in(table, lot), tuple(sorted(told)))
        loose = tuple(sorted(part for part, period in told if period == 1))
        same(self, loose_parts(table, lot), loose)
        for part in loose:
            whole = [steps for steps in range(1, MOST + 1)
                     if all(set(part) <= found[one][steps] for one in part)]
            reach = min(steps for steps in whole if whole[-(MOST - steps + 1):] == list(range(steps, MOST + 1)))
            same(self, reach_of(table, lot, part), reach)

    def test_by_definition(self):
        for table in SOME:
            lots = some_lots(marks_in(table))
            for lot in lots if len(lots) <= 16 else lots[-5:]:
                self.check_lot(table, lot)

    def test_plain(self):
        same(self, parts_in(CIRCLE, 'abcdef'), (('abcdef', 6),))
        same(self, parts_in(CIRCLE, 'abcde'), ())
        same(self, parts_in(LONG, 'abcdef'), (('ab', 2), ('cd', 1), ('ef', 1)))
        same(self, parts_in(table=DIST, lot=''), ())
        same(self, loose_parts(table=DIST, lot='abc'), ('abc',))
        same(self, reach_of(table=DIST, lot='abc', part='abc'), 2)
        same(self, reach_of((2, ('aaa',)), 'a', 'a'), 1)
        same(self, parts_in((2, ('aaa', 'bbb')), 'ab'), (('a', 1), ('b', 1)))
        same(self, leads(table=LOST, lot='abc', one='c', other='c'), False)
        same(self, leads((2, ('aaa',)), 'a', 'a', 'a'), True)
        great = (2, ('aab', 'bcc', 'cdd', 'dee', 'eff', 'fgg', 'ghh', 'haa'))
        same(self, reach_of(great, 'abcdefgh', 'abcdefgh'), 14)
        wide = (2, ('abc', 'bcc', 'cdd', 'dee', 'eff', 'fgg', 'ghh', 'haa'))
        same(self, reach_of(wide, 'abcdefgh', 'abcdefgh'), 50)

    def test_no_loose_part(self):
        for part in ('ab', 'c', 'd', 'abcd', '', 'dc', None, ('cd',), ['cd'], 7):
            refuses(self, 'part', reach_of, STEPS, 'abcd', part)
        refuses(self, 'part', reach_of, TURNS, 'ab', 'ab')
        for thing in ANY:
            if thing != 'abc':
                refuses(self, 'part', reach_of, UNLIKE, 'abc', thing)

    def test_consequences(self):
        for table in SOME:
            lot = marks_in(table)
            pairs = parts_in(table, lot)
            self.assertEqual(len(''.join(part for part, _ in pairs)), len(set(''.join(part for part, _ in pairs))))
            owner = {mark: part for part, _ in pairs for mark in part}
            for one in lot:
                self.assertEqual(one in owner, leads(table, lot, one, one))
                for other in lot:
                    both = leads(table, lot, one, other) and leads(table, lot, other, one)
                    self.assertEqual(both, owner.get(one, 1) == owner.get(other, 2))
                    way = least_way(table, lot, one, other)
                    self.assertEqual(way is not None, leads(table, lot, one, other))
                    self.assertTrue(way is None or len(way) - 1 <= len(lot))
            for part, period in pairs:
                for one in part:
                    for other in part:
                        _, start, rests, length = lengths_of(table, lot, one, other)
                        same(self, (len(rests), length), (1, period))
                        if period == 1:
                            self.assertTrue(start <= reach_of(table, lot, part))


if __name__ == "__main__":
    unittest.main()
