"""How many steps ways have, and how many ways there are ([42], [43])."""

import unittest

from markladder.arrows import ends_by, least_way
from markladder.lengths import how_many_ways, is_length, lengths_of
from oracles import ends, marks_in, some_lots, some_tables, ways
from values import DIST, LONG, LOST, STEPS, TABLES, TURNS, UNLIKE, refuses, same

# Ways from a go round a circle of four, of f round one of three, and d leads to both.
ROUNDS = (2, ('abb', 'bcc', 'cee', 'daf', 'eaa', 'fgg', 'ghh', 'hff'))
SOME = [*TABLES, ROUNDS, *some_tables(32, 60, 'abcd', 5), *some_tables(33, 15, 'abcdefgh', 12)]


def least_quadruple(hits, most):
    """The quadruple of least start, then least period, for hits that repeat with a period of at most most."""
    for start in range(len(hits) - 2 * most):
        for period in range(1, most + 1):
            if all(hits[index] == hits[index + period] for index in range(start, len(hits) - period)):
                firsts = tuple(index for index in range(start) if hits[index])
                rests = tuple(sorted(index % period for index in range(start, start + period) if hits[index]))
                return (firsts, start, rests, period)
    return None


class LengthsTest(unittest.TestCase):
    def test_by_definition(self):
        for table in SOME:
            lot = marks_in(table)
            for one in lot:
                found = ends(table, lot, one, 150)
                for other in lot:
                    hits = [other in group for group in found]
                    same(self, lengths_of(table, lot, one, other), least_quadruple(hits, 20))

    def test_smaller_lots(self):
        for table in (STEPS, LONG, UNLIKE, LOST):
            for lot in some_lots(marks_in(table))[::3]:
                for one in lot:
                    found = ends(table, lot, one, 60)
                    for other in lot:
                        hits = [other in group for group in found]
                        same(self, lengths_of(table, lot, one, other), least_quadruple(hits, 12))

    def test_plain(self):
        same(self, lengths_of(ROUNDS, 'abcdefgh', 'd', 'a'), ((), 0, (1,), 4))
        same(self, lengths_of(ROUNDS, 'abcdefgh', 'f', 'f'), ((), 0, (0,), 3))
        same(self, lengths_of(ROUNDS, 'abcdefgh', 'd', 'd'), ((0,), 1, (), 1))
        same(self, lengths_of(ROUNDS, 'abcdefgh', 'a', 'd'), ((), 0, (), 1))
        same(self, lengths_of(UNLIKE, 'abc', 'a', 'a'), ((0,), 2, (0,), 1))
        same(self, lengths_of(table=UNLIKE, lot='abc', one='a', other='b'), ((), 1, (0,), 1))
        same(self, lengths_of((2, ('bac', 'cad', 'dbb')), 'abcd', 'c', 'a'), ((), 1, (0, 1), 3))
        same(self, lengths_of((2, ('aaa',)), 'a', 'a', 'a'), ((), 0, (0,), 1))
        same(self, lengths_of((2, ('abb', 'bcc')), 'abc', 'a', 'c'), ((2,), 3, (), 1))
        both = (2, ('abe', 'bcc', 'cdd', 'daa', 'eff', 'faa'))
        same(self, lengths_of(both, 'abcdef', 'a', 'a'), ((0, 3, 4), 6, (0,), 1))

    def test_great_numbers(self):
        for table in SOME[:30]:
            lot = marks_in(table)
            for one in lot:
                for other in lot:
                    firsts, start, rests, period = lengths_of(table, lot, one, other)
                    for steps in (0, 1, 2, 3, 7, 59, 60, 10 ** 9, 10 ** 30 - 1, 10 ** 29 + 7, 7 ** 34):
                        told = steps in firsts if steps < start else steps % period in rests
                        same(self, is_length(table, lot, one, other, steps), told)
                        self.assertEqual(other in ends_by(table, lot, one, steps), told)
        same(self, is_length(table=TURNS, lot='ab', one='a', other='a', steps=10 ** 29), True)

    def test_how_many(self):
        for table in SOME[:40]:
            lot = marks_in(table)
            for one in lot:
                for steps in range(5):
                    found = ways(table, lot, one, steps)
                    for other in lot:
                        count = len([way for way in found if way[-1] == other])
                        same(self, how_many_ways(table, lot, one, other, steps), count)
                        same(self, is_length(table, lot, one, other, steps), count > 0)

    def test_how_many_with_many_steps(self):
        same(self, how_many_ways(table=UNLIKE, lot='abc', one='a', other='b', steps=60), (2 ** 60 - 1) // 3)
        same(self, how_many_ways(UNLIKE, 'abc', 'a', 'a', 60), (2 ** 60 + 2) // 3)
        same(self, how_many_ways(TURNS, 'ab', 'a', 'b', 60), 0)
        same(self, how_many_ways(TURNS, 'ab', 'a', 'b', 59), 1)
        same(self, how_many_ways(DIST, 'ab', 'a', 'a', 0), 1)
        free = (3, tuple(sorted(top + 'abc' for top in 'abc')))
        same(self, how_many_ways(free, 'abc', 'a', 'b', 60), 3 ** 59)
        for table in SOME[:20]:
            lot = marks_in(table)
            for one in lot:
                for other in lot:
                    for steps in (17, 60):
                        same(self, how_many_ways(table, lot, one, other, steps) > 0, is_length(table, lot, one, other, steps))

    def test_no_way(self):
        for table in SOME:
            lot = marks_in(table)
            for one in lot:
                for other in lot:
                    if least_way(table, lot, one, other) is None:
                        told = ((0,), 1, (), 1) if one == other else ((), 0, (), 1)
                        same(self, lengths_of(table, lot, one, other), told)

    def test_wrong_values(self):
        for function in (is_length, how_many_ways):
            for steps in (-1, False, None, '1', 10 ** 29 * -1):
                refuses(self, 'steps', function, STEPS, 'abcd', 'a', 'b', steps)
            refuses(self, 'other', function, STEPS, 'abc', 'a', 'd', -1)
        refuses(self, 'one', lengths_of, STEPS, 'abc', 'd', 'e')
        refuses(self, 'lot', lengths_of, STEPS, 'abce', 'e', 'e')


if __name__ == "__main__":
    unittest.main()
