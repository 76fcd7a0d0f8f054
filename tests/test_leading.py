"""Tables that are led into others ([54])."""

import itertools
import unittest

from markladder.goodrows import root_of
from markladder.hardladders import ladder
from markladder.leading import is_leading, leading_of
from markladder.rungs import is_at_least, rung_of
from markladder.walkers import alike_marks, are_side_lots, below_lots, is_below_lot, side_lots
from oracles import marks_in, some_tables
from values import ANY, DIST, LOST, SIDED, STEPS, THREES, TURNS, UNLIKE, refuses, same

SOME = [TURNS, UNLIKE, DIST, SIDED, LOST, STEPS, THREES, *some_tables(60, 60, 'abc', 6), *some_tables(61, 20, 'abcd', 9)]
PAIRS = [(one, other) for one in SOME for other in SOME[::3] if one[0] == other[0]]


def leads(table, other, told):
    return all(told[row[0]] + ''.join(sorted(told[mark] for mark in row[1:])) in other[1] for row in table[1])


def all_leadings(table, other):
    marks = marks_in(table)
    choices = [dict(zip(marks, ends)) for ends in itertools.product(marks_in(other), repeat=len(marks))]
    return [tuple(sorted(told.items())) for told in choices if leads(table, other, told)]


class LeadingTest(unittest.TestCase):
    def test_least_one(self):
        several = 0
        for table, other in PAIRS:
            found = all_leadings(table, other)
            several += len(found) > 1
            same(self, leading_of(table, other), min(found) if found else None)
        self.assertTrue(several > 50)
        same(self, leading_of(table=TURNS, other=UNLIKE), (('a', 'a'), ('b', 'b')))

    def test_is_leading(self):
        for table, other in PAIRS[::7]:
            found = all_leadings(table, other)
            for ends in itertools.product(marks_in(other), repeat=len(marks_in(table))):
                names = tuple(zip(marks_in(table), ends))
                self.assertIs(is_leading(table, other, names), names in found)
        self.assertIs(is_leading(table=TURNS, other=UNLIKE, names=(('a', 'b'), ('b', 'c'))), True)

    def test_other_values_as_names(self):
        for names in (*ANY, (('a', 'b'),), (('b', 'a'), ('a', 'b')), (('a', 'b'), ('b', 'a'), ('c', 'a')), [('a', 'b'), ('b', 'a')],
                      (['a', 'b'], ['b', 'a']), (('a', 'b', 'a'), ('b', 'a')), (('a', 'b'), ('a', 'b'), ('b', 'a')), ('ab', 'ba'),
                      (('a', 'b'), ('b', ['a'])), (('a', 'b'), ('b', 'z')), (('a', 'b'), ('b', '')), (('a', 'b'), ('b', None)),
                      (('a', 'b'), ('c', 'a')), (('a', 'b'), (True, 'a'))):
            with self.subTest(names=repr(names)[:80]):
                kept = repr(names)
                self.assertIs(is_leading(TURNS, UNLIKE, names), kept == repr((('a', 'b'), ('b', 'c'))))
                self.assertEqual(repr(names), kept)
        self.assertIs(is_leading(TURNS, UNLIKE, (('a', 'b'), ('b', 'a'))), True)
        # Both marks may become one.
        alike = (2, ('ccc',))
        self.assertIs(is_leading(TURNS, alike, (('a', 'c'), ('b', 'c'))), True)
        same(self, leading_of(TURNS, alike), (('a', 'c'), ('b', 'c')))

    def test_order_below(self):
        # What is below is sorted: b, c become b, a.
        same(self, leading_of((2, ('abc',)), (2, ('cab',))), (('a', 'c'), ('b', 'a'), ('c', 'b')))
        self.assertIs(is_leading((2, ('abc',)), (2, ('cab',)), (('a', 'c'), ('b', 'b'), ('c', 'a'))), True)
        same(self, leading_of((2, ('cab',)), (2, ('abc',))), (('a', 'b'), ('b', 'c'), ('c', 'a')))

    def test_five_marks(self):
        five = (2, ('abc', 'bcd', 'cde', 'dae', 'eab'))
        wide = (2, tuple(sorted(top + ''.join(rest) for top in 'abcde' for rest in itertools.combinations('abcde', 2))))
        same(self, leading_of(five, five), tuple(zip('abcde', 'abcde')))
        found = all_leadings(five, wide[:1] + (wide[1][:29],))
        same(self, leading_of(five, (2, wide[1][:29])), min(found) if found else None)

    def test_other_many(self):
        refuses(self, 'other', leading_of, TURNS, THREES)
        refuses(self, 'other', is_leading, THREES, TURNS, None)
        refuses(self, 'table', is_leading, None, None, None)


class ConsequencesTest(unittest.TestCase):
    def test_what_is_led(self):
        for table, other in PAIRS:
            names = leading_of(table, other)
            if names is None:
                continue
            told = dict(names)
            led = lambda lot: ''.join(sorted({told[mark] for mark in lot}))
            for lot in below_lots(table):
                self.assertTrue(is_below_lot(other, led(lot)))
            for lots in side_lots(table):
                self.assertTrue(are_side_lots(other, tuple(led(lot) for lot in lots)))
            for mark in alike_marks(table):
                self.assertIn(told[mark], alike_marks(other))
            root, greater = root_of(table), root_of(other)
            self.assertTrue(greater is None or (root is not None and root <= greater))
            self.assertTrue(is_at_least(rung_of(other), rung_of(table)))

    def test_more_rows_and_ladders(self):
        for table, other in PAIRS:
            joined = (table[0], tuple(sorted({*table[1], *other[1]})))
            names = tuple((mark, mark) for mark in marks_in(table))
            self.assertIs(is_leading(table, joined, names), True)
            self.assertIsNotNone(leading_of(table, joined))
        for many in (2, 3):
            for k in (1, 2):
                self.assertIsNotNone(leading_of(ladder(many, k), ladder(many, k + 1)))
            self.assertIsNone(leading_of(ladder(many, 2), ladder(many, 1)))


if __name__ == "__main__":
    unittest.main()
