"""Good rows and roots ([6], [48] to [50]), and tables with a root that is asked for ([55])."""

import unittest

from markladder.fulls import lasting
from markladder.goodrows import at_least, good_rows, is_good_row, next_lots, root_of
from markladder.hardladders import ladder
from markladder.parts import loose_parts
from oracles import all_rows, inside, lasting as ref_lasting, marks_in, some_lots, some_tables
from values import ANY, DIST, LONG, LOST, SIDED, STEPS, TABLES, THREES, TURNS, UNLIKE, refuses, same

# Two loose parts in a row, and what lasts in the second one is less than it.
DEEP = (2, ('abb', 'baa', 'cac', 'cdd', 'dcc', 'ece', 'eff', 'fee'))
LADDERS = [ladder(many, k) for many in (2, 3) for k in (1, 2, 3, 4)]
SOME = [*TABLES, *LADDERS, *some_tables(37, 120, 'abc', 6), *some_tables(38, 120, 'abcdef', 12)]


def cut_ladder(many, k, lost):
    table = ladder(many, k)
    return (many, tuple(row for row in table[1] if row not in lost))


def ref_good_row(table, thing):
    """Whether a tuple of strings is a good row."""
    if len(thing) % 2 == 0 or '' in thing or thing[0] != ref_lasting(table, marks_in(table)):
        return False
    for index in range(1, len(thing), 2):
        if thing[index] not in loose_parts(table, thing[index - 1]):
            return False
        if thing[index + 1] != ref_lasting(table, thing[index]):
            return False
    return True


def longer_rows(table, row):
    """All good rows with one lot V more."""
    longer = [(*row, part, ref_lasting(table, part)) for part in loose_parts(table, row[-1])]
    return [one for one in longer if one[-1] != '']


def ref_rows(table):
    first = ref_lasting(table, marks_in(table))
    rows, done = [(first,)] if first else [], []
    while rows:
        row = rows.pop()
        longer = longer_rows(table, row)
        if row[-1] in loose_parts(table, row[-1]) or not longer:
            done.append(row)
        else:
            rows.extend(longer)
    return tuple(sorted(done))


class GoodRowsTest(unittest.TestCase):
    def test_next_lots(self):
        for table in SOME:
            for lot in some_lots(marks_in(table))[-6:]:
                told = tuple(sorted((part, lasting(table, part)) for part in loose_parts(table, lot)))
                same(self, next_lots(table, lot), told)
        same(self, next_lots(table=UNLIKE, lot=''), ())
        same(self, next_lots(LONG, 'abcdef'), (('cd', 'cd'), ('ef', 'ef')))
        refuses(self, 'lot', next_lots, UNLIKE, 'abd')

    def test_good_rows(self):
        for table in SOME:
            rows = good_rows(table)
            same(self, rows, ref_rows(table))
            for row in rows:
                self.assertTrue(is_good_row(table, row))
                for end in range(1, len(row) + 1, 2):
                    self.assertIs(is_good_row(table, row[:end]), True)
                    self.assertIs(is_good_row(table, row[:end + 1]), end == len(row))

    def test_all_short_rows(self):
        for table in SOME[:60]:
            lots = some_lots(marks_in(table)) if len(marks_in(table)) <= 3 else some_lots('abcd')[::2]
            for one in lots:
                self.assertIs(is_good_row(table, (one,)), ref_good_row(table, (one,)))
                for part in lots:
                    self.assertIs(is_good_row(table, (one, part)), False)
                    for last in lots:
                        row = (one, part, last)
                        self.assertIs(is_good_row(table, row), ref_good_row(table, row))

    def test_roots(self):
        for table in SOME:
            rows = ref_rows(table)
            endless = any(row[-1] in loose_parts(table, row[-1]) for row in rows)
            root = None if endless else max([(len(row) + 1) // 2 for row in rows], default=0)
            same(self, root_of(table), root)
            for k in (0, 1, 2, 3, 4, 5, 10 ** 59):
                same(self, at_least(table, k), root is None or root >= k)
        same(self, [root_of(table) for table in LADDERS], [1, 2, 3, 4] * 2)
        same(self, root_of(table=DEEP), 2)
        same(self, at_least(table=DEEP, k=2), True)
        same(self, root_of((2, ('aaa',))), None)
        same(self, root_of((2, ('abb',))), 0)

    def test_rows_that_fall_away(self):
        fallen = cut_ladder(2, 3, ('dcc',))
        same(self, good_rows(fallen), ref_rows(fallen))
        # What lasts in the loose part cde is less than it.
        less = (2, ('abb', 'baa', 'cac', 'cdd', 'cee', 'dcc', 'eac'))
        same(self, next_lots(less, 'abcde'), (('cde', 'cd'),))
        same(self, good_rows(less), (('abcde', 'cde', 'cd'),))
        same(self, root_of(less), 2)
        same(self, is_good_row(less, ('abcde', 'cde', 'cd')), True)
        same(self, is_good_row(less, ('abcde', 'cde', 'cde')), False)
        same(self, is_good_row(less, ('abcde', 'cd', 'cd')), False)
        # Nothing lasts in a loose part.
        same(self, next_lots(LOST, 'abc'), (('ab', ''),))
        same(self, is_good_row(LOST, ('',)), False)
        same(self, is_good_row(LOST, ('abc',)), False)

    def test_rows_ascend(self):
        # A longer row stands ahead of a shorter one.
        forked = (2, tuple(sorted(ladder(2, 3)[1] + ('gag', 'ghh', 'hgg'))))
        same(self, good_rows(forked), (('abcdefgh', 'cdef', 'cdef', 'ef', 'ef'), ('abcdefgh', 'gh', 'gh')))
        same(self, root_of(forked), 3)
        # The first row in order is not the longest one.
        forked = (2, ('abb', 'baa', 'cac', 'cdd', 'dcc', 'eag', 'eff', 'fee', 'geg', 'ghh', 'hgg'))
        same(self, good_rows(forked), (('abcdefgh', 'cd', 'cd'), ('abcdefgh', 'efgh', 'efgh', 'gh', 'gh')))
        same(self, root_of(forked), 3)

    def test_long_rows(self):
        same(self, is_good_row(UNLIKE, ('abc',) * 9999), True)
        same(self, is_good_row(UNLIKE, ('abc',) * 10000), False)
        same(self, is_good_row(STEPS, ('abcd', 'cd', 'cd', 'cd', 'cd')), False)
        same(self, is_good_row(LONG, ('abcdef', 'ef', 'ef')), True)
        same(self, is_good_row(LONG, ('abcdef', 'cd', 'ef')), False)
        same(self, is_good_row(SIDED, ('ab', 'ab', 'ab')), True)
        same(self, is_good_row(table=THREES, thing=('b',)), False)

    def test_any_value(self):
        for thing in ANY:
            for row in (thing, (thing,), ('abcd', thing), ('abcd', thing, 'cd'), ('abcd', 'cd', thing), (thing, 'cd', 'cd')):
                with self.subTest(row=repr(row)[:80]):
                    good = row in (('abcd',), ('abcd', 'cd', 'cd'))
                    kept = repr(row)
                    self.assertIs(is_good_row(STEPS, row), good)
                    self.assertEqual(repr(row), kept)
        for row in (['abcd'], 'abcd', ['abcd', 'cd', 'cd'], ('dcba',), ('abcd', 'dc', 'cd'), ('abcd', ['cd'], 'cd')):
            self.assertIs(is_good_row(STEPS, row), False)

    def test_wrong_values(self):
        for k in (-1, True, None, '1', (1,)):
            refuses(self, 'k', at_least, UNLIKE, k)

    def test_consequences(self):
        for table in SOME:
            rows, root = good_rows(table), root_of(table)
            self.assertEqual(root == 0, rows == ())
            endless = [row for row in rows if row[-1] in loose_parts(table, row[-1])]
            self.assertEqual(root is None, endless != [])
            for row in endless:
                self.assertTrue(is_good_row(table, row + (row[-1],) * 8))
        for table in SOME[:60]:
            root = root_of(table)
            for row in all_rows(table[0], marks_in(table))[:6]:
                if row not in table[1]:
                    more = root_of((table[0], tuple(sorted(table[1] + (row,)))))
                    self.assertTrue(more is None or root is not None and more >= root)


class LadderTest(unittest.TestCase):
    def test_plain(self):
        same(self, ladder(2, 1), TURNS)
        same(self, ladder(2, 2), STEPS)
        same(self, ladder(3, 1), (3, ('abbb', 'baaa')))
        same(self, ladder(3, 2), (3, ('abbb', 'baaa', 'cacc', 'cddd', 'dccc')))
        same(self, ladder(many=2, k=3), (2, ('abb', 'baa', 'cae', 'cdd', 'dcc', 'ece', 'eff', 'fee')))
        same(self, ladder(3, 3), (3, ('abbb', 'baaa', 'caee', 'cddd', 'dccc', 'ecee', 'efff', 'feee')))
        same(self, ladder(2, 4), (2, ('abb', 'baa', 'cae', 'cdd', 'dcc', 'ecg', 'eff', 'fee', 'geg', 'ghh', 'hgg')))
        same(self, len(ladder(3, 4)[1]), 11)

    def test_refused(self):
        for many in ANY:
            if isinstance(many, bool) or many not in (2, 3):
                refuses(self, 'many', ladder, many, 0)
        for k in (0, 5, -1, True, None, '1', (1,), 10 ** 59):
            refuses(self, 'k', ladder, 2, k)

    def test_rows_are_needed(self):
        for many in (2, 3):
            for k in (2, 3, 4):
                for row in ladder(many, k)[1]:
                    self.assertTrue(root_of(cut_ladder(many, k, (row,))) <= k)
                self.assertTrue(all(inside(ladder(many, k), lot) for lot in ('ab', 'cd')))
        self.assertIs(root_of(DIST), None)


if __name__ == "__main__":
    unittest.main()
