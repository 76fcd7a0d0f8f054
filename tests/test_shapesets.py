"""What the tops of all shapes can have ([36])."""

import unittest

from markladder.fulls import lasting
from markladder.marking import tops_by
from markladder.shapesets import all_tops, least_never
from oracles import marks_in, shapes_up_to, some_tables
from values import DIST, LOST, STEPS, THREES, TURNS, UNLIKE, same

SHAPES = {2: shapes_up_to(2, 13), 3: shapes_up_to(3, 13)}


class ShapeSetsTest(unittest.TestCase):
    def check_table(self, table):
        told = all_tops(table)
        self.assertIs(type(told), tuple)
        lots = [lot for lot, _ in told]
        self.assertEqual(lots, sorted(set(lots)))
        for pair in told:
            self.assertIs(type(pair), tuple)
            same(self, tops_by(table, pair[1], '?' * len(pair[1])), pair[0])
        first = {}
        for shape in sorted(SHAPES[table[0]], key=lambda shape: (len(shape), shape)):
            first.setdefault(tops_by(table, shape, '?' * len(shape)), shape)
        for lot, shape in told:
            if lot in first:
                same(self, shape, first[lot])
            else:
                self.assertTrue(len(shape) > 13)
        self.assertTrue(set(first) <= set(lots))
        same(self, least_never(table), dict(told).get(''))

    def test_by_definition(self):
        for table in (TURNS, UNLIKE, DIST, LOST, STEPS, THREES):
            self.check_table(table)
        # By these, lots are found in another order than that of their least shapes.
        for rows in (('abc', 'bcc'), ('abc', 'cdd'), ('bac', 'caa'), ('cbb', 'dac'), ('caa', 'dbc')):
            self.check_table((2, rows))
        for table in some_tables(26, 20, 'abcd', 7):
            self.check_table(table)

    def test_plain(self):
        same(self, all_tops((2, ('aaa',))), (('a', '.'),))
        same(self, all_tops((2, ('abb',))), (('', '++...'), ('a', '+..'), ('ab', '.')))
        same(self, least_never((3, ('abbb',))), '++.....')
        same(self, least_never(table=STEPS), None)

    def test_closed(self):
        """Each choice of lots below makes a lot that is told, too."""
        for table in some_tables(27, 40, 'abcd', 9):
            told = dict(all_tops(table))
            names = list(told)
            for one in names:
                for other in names:
                    shape = '+' + told[one] + told[other] + (told[one] if table[0] == 3 else '')
                    self.assertIn(tops_by(table, shape, '?' * len(shape)), told)
            last = lasting(table, marks_in(table))
            self.assertTrue(all(set(last) <= set(lot) for lot in told))

    def test_four_marks_for_three(self):
        long = (3, ('aabd', 'aadd', 'abbd', 'babc', 'bccc', 'cacc'))
        told = dict(all_tops(long))
        self.assertTrue(max(len(shape) for shape in told.values()) > 60)
        for lot, shape in told.items():
            same(self, tops_by(long, shape, '?' * len(shape)), lot)


if __name__ == "__main__":
    unittest.main()
