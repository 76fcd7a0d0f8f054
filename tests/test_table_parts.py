"""Parts of tables ([22]) and changes of tables ([26])."""

import unittest

from markladder.changes import cut_to, renamed, with_row, without_row
from markladder.tableparts import below, marks_of, rows_of, rows_within, tops_of
from oracles import all_rows, inside, marks_in, some_lots, some_tables
from values import DIST, LOST, STEPS, TABLES, THREES, UNLIKE, refuses, same


class TablePartsTest(unittest.TestCase):
    def test_plain(self):
        same(self, marks_of(LOST), 'abc')
        same(self, tops_of(LOST), 'ab')
        same(self, rows_of(LOST, 'b'), ('baa', 'bbc'))
        same(self, rows_of(LOST, 'c'), ())
        same(self, below(LOST, 'b'), 'abc')
        same(self, below(LOST, 'c'), '')
        same(self, rows_within(LOST, 'ab'), ('baa',))
        same(self, rows_within(LOST, ''), ())
        same(self, rows_within(LOST, 'abcxyz'), LOST[1])
        same(self, below(THREES, 'a'), 'abc')

    def test_by_definition(self):
        for table in [*TABLES, *some_tables(1, 60, 'abcde')]:
            marks = marks_in(table)
            same(self, marks_of(table), marks)
            same(self, tops_of(table), ''.join(sorted({row[0] for row in table[1]})))
            for mark in marks:
                rows = [row for row in table[1] if row[0] == mark]
                same(self, rows_of(table, mark), tuple(rows))
                same(self, below(table, mark), ''.join(sorted(set(''.join(row[1:] for row in rows)))))
            for lot in some_lots(marks):
                same(self, rows_within(table, lot), tuple(inside(table, lot)))


class TableChangesTest(unittest.TestCase):
    def test_with_row(self):
        same(self, with_row(LOST, 'aaa'), (2, ('aaa', 'abc', 'baa', 'bbc')))
        same(self, with_row(LOST, 'zyy'), (2, ('abc', 'baa', 'bbc', 'zyy')))
        refuses(self, 'row', with_row, LOST, 'abc')
        refuses(self, 'row', with_row, LOST, 'aba')
        refuses(self, 'row', with_row, LOST, 'abbb')

    def test_without_row(self):
        same(self, without_row(LOST, 'baa'), (2, ('abc', 'bbc')))
        refuses(self, 'row', without_row, LOST, 'aaa')
        refuses(self, 'row', without_row, (3, ('abbb',)), 'abbb')

    def test_cut_to(self):
        same(self, cut_to(UNLIKE, 'abz'), (2, ('abb', 'baa')))
        refuses(self, 'lot', cut_to, DIST, 'ab')
        refuses(self, 'lot', cut_to, DIST, '')

    def test_back_again(self):
        for table in some_tables(2, 40, 'abcd'):
            for row in all_rows(table[0], 'abd'):
                if row in table[1] and len(table[1]) > 1:
                    same(self, with_row(without_row(table, row), row), table)
                elif row not in table[1]:
                    longer = with_row(table, row)
                    same(self, longer, (table[0], tuple(sorted(table[1] + (row,)))))
                    same(self, without_row(longer, row), table)
            for lot in some_lots('abcd'):
                if inside(table, lot):
                    same(self, cut_to(table, lot), (table[0], tuple(inside(table, lot))))
                else:
                    refuses(self, 'lot', cut_to, table, lot)

    def test_renamed(self):
        same(self, renamed(LOST, ()), LOST)
        same(self, renamed(LOST, (('x', 'a'), ('y', 'a'))), LOST)
        same(self, renamed(LOST, (('a', 'b'), ('b', 'a'))), (2, ('aac', 'abb', 'bac')))
        same(self, renamed(STEPS, (('a', 'z'),)), (2, ('bzz', 'ccz', 'cdd', 'dcc', 'zbb')))
        same(self, renamed(LOST, (('a', 'b'), ('b', 'c'), ('c', 'a'))), (2, ('bac', 'cac', 'cbb')))

    def test_not_renamed(self):
        for names in ((('a', 'b'),), (('a', 'z'), ('b', 'z')), (('a', 'b'), ('b', 'c')), (('b', 'd'), ('a', 'e')),
                      (('a', 'd'), ('a', 'd')), (('a', 'd'), ('a', 'e')), [('a', 'd')], (['a', 'd'],), (('a', 'd', 'e'),),
                      (('a',),), (('ab', 'c'),), (('a', ''),), (('A', 'b'),), (('a', 1),), ('ad',), 'ad', None):
            with self.subTest(names=names):
                refuses(self, 'names', renamed, LOST, names)


if __name__ == "__main__":
    unittest.main()
