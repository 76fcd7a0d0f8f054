"""Below lots, side lots, alike marks, and what walkers lay ([57], [58])."""

import itertools
import random
import unittest

from markladder.goodrows import root_of
from markladder.rings import ring_of
from markladder.walkers import (alike_marks, are_side_lots, below_lots, is_below_lot, side_lots, side_marking,
                                walk_marking)
from oracles import all_rows, is_right, marks_in, places_in, shapes_up_to, some_lots, some_shape, some_tables
from values import ANY, DIST, SIDED, TABLES, TURNS, UNLIKE, refuses, same

BOTH = (2, ('aaa', 'abb', 'bab', 'bbb'))
SIDED_3 = (3, ('aaab', 'baab', 'caab'))


def full_tables(seed, number, marks, many):
    """Tables of rows for most choices below, so that there are walkers for many of them."""
    chance = random.Random(seed)
    below = [''.join(rest) for rest in itertools.combinations_with_replacement(marks, many)]
    tables = []
    for _ in range(number):
        rows = {chance.choice(marks) + rest for rest in below if chance.random() < 0.85}
        tables.append((many, tuple(sorted(rows | {chance.choice(all_rows(many, marks)) for _ in range(chance.randint(1, 8))}))))
    return tables


SOME = [*TABLES[:6], BOTH, SIDED_3, *some_tables(65, 60, 'abc', 9), *full_tables(66, 60, 'abc', 2),
        *full_tables(67, 30, 'abcd', 2), *full_tables(68, 30, 'ab', 3), *full_tables(69, 12, 'abc', 3)]


def tops_over(table, choice):
    return {row[0] for row in table[1] if row[1:] == ''.join(sorted(choice))}


def ref_below(table, lot):
    return lot != '' and all(tops_over(table, choice) & set(lot) for choice in itertools.product(lot, repeat=table[0]))


def ref_sides(table, lots):
    return '' not in lots and all(tops_over(table, choice) & set(lot) for choice in itertools.product(*lots) for lot in lots)


def within(lots, others):
    return all(set(lot) <= set(other) for lot, other in zip(lots, others))


def ref_side_lots(table):
    right = [lots for lots in itertools.product(some_lots(marks_in(table)), repeat=table[0]) if ref_sides(table, lots)]
    return tuple(sorted(lots for lots in right if not any(within(less, lots) for less in right if less != lots)))


class WalkersTest(unittest.TestCase):
    def test_below_lots(self):
        counts = set()
        for table in SOME:
            right = [lot for lot in sorted(some_lots(marks_in(table))) if ref_below(table, lot)]
            same(self, below_lots(table=table), tuple(right))
            counts.add(len(right))
            for lot in some_lots(marks_in(table)):
                self.assertIs(is_below_lot(table, lot), lot in right)
        self.assertTrue({0, 1, 2, 3} <= counts)
        self.assertIs(is_below_lot(table=BOTH, lot='ab'), True)
        self.assertIs(is_below_lot(BOTH, ''), False)

    def test_side_lots(self):
        counts = set()
        for table in SOME:
            right = ref_side_lots(table)
            same(self, side_lots(table=table), right)
            counts.add(len(right))
        self.assertTrue({0, 1, 2, 3, 4} <= counts)
        same(self, side_lots(BOTH), (('a', 'a'), ('a', 'b'), ('b', 'a'), ('b', 'b'))[:1] + (('b', 'b'),))

    def test_are_side_lots(self):
        for table in SOME[::2]:
            for lots in list(itertools.product(some_lots(marks_in(table)), repeat=table[0]))[:300]:
                self.assertIs(are_side_lots(table, lots), ref_sides(table, lots))
        self.assertIs(are_side_lots(table=SIDED, lots=('a', 'b')), True)
        self.assertIs(are_side_lots(SIDED, ('a', '')), False)
        self.assertIs(are_side_lots(SIDED, ('', '')), False)
        self.assertIs(are_side_lots(SIDED, ('ab', 'ab')), False)
        self.assertIs(are_side_lots(SIDED_3, ('a', 'a', 'b')), True)
        self.assertIs(are_side_lots(SIDED_3, ('a', 'a', 'bc')), False)

    def test_many_marks(self):
        wide = (2, tuple(sorted('abcd'[(index * 7) % 4] + ''.join(rest) for index, rest in
                                enumerate(itertools.combinations_with_replacement('abcd', 2)))))
        same(self, side_lots(wide), ref_side_lots(wide))
        great = (3, tuple(sorted(set(all_rows(3, 'abcd')[::3]))[:30]))
        same(self, side_lots(great), ref_side_lots(great))
        same(self, below_lots(great), tuple(lot for lot in sorted(some_lots('abcd')) if ref_below(great, lot)))

    def test_alike_marks(self):
        for table in SOME:
            same(self, alike_marks(table=table), ''.join(mark for mark in marks_in(table) if mark * (table[0] + 1) in table[1]))
        same(self, alike_marks((3, ('aaaa', 'abbb', 'bbbb', 'cccd'))), 'ab')


class MarkingsTest(unittest.TestCase):
    def check(self, table, shape, marking, told):
        self.assertTrue(is_right(table, shape, marking))
        for place, one in enumerate(places_in(table[0], shape)):
            lot = told[place]
            if one['children']:
                lot = tops_over(table, [marking[child] for child in one['children']]) & set(lot)
            self.assertEqual(marking[place], min(lot))

    def test_walk_marking(self):
        chance = random.Random(70)
        tried = 0
        for table in SOME:
            shapes = shapes_up_to(table[0], 7) + [some_shape(chance, table[0], 19)]
            for lot in below_lots(table):
                for shape in shapes:
                    self.check(table, shape, walk_marking(table, lot, shape), [lot] * len(shape))
                    tried += 1
        self.assertTrue(tried > 500)
        same(self, walk_marking(table=BOTH, lot='b', shape='+..'), 'bbb')
        same(self, walk_marking(BOTH, 'ab', '+..'), 'aaa')

    def test_side_marking(self):
        chance = random.Random(71)
        for table in SOME:
            shapes = shapes_up_to(table[0], 7) + [some_shape(chance, table[0], 19)]
            for lots in side_lots(table)[:4] + tuple((lot,) * table[0] for lot in below_lots(table)[-1:]):
                for shape in shapes:
                    told = [lots[0]] * len(shape)
                    for one in places_in(table[0], shape):
                        for side, child in enumerate(one['children']):
                            told[child] = lots[side]
                    self.check(table, shape, side_marking(table, lots, shape), told)
        same(self, side_marking(table=SIDED, lots=('b', 'a'), shape='++...'), 'bbbaa')
        same(self, side_marking(SIDED_3, ('a', 'a', 'b'), '+..+...'), 'aaabaab')

    def test_equal_parts(self):
        chance = random.Random(72)
        for table in SOME:
            for _ in range(3):
                shape = some_shape(chance, table[0], 12)
                places = places_in(table[0], shape)
                sides = [0] * len(shape)
                for one in places:
                    for side, child in enumerate(one['children']):
                        sides[child] = side
                for lot in below_lots(table)[:1]:
                    marking = walk_marking(table, lot, shape)
                    marks = {(one['part'], mark) for one, mark in zip(places, marking)}
                    self.assertEqual(len(marks), len({one['part'] for one in places}))
                for lots in side_lots(table)[:1]:
                    marking = side_marking(table, lots, shape)
                    marks = {(one['part'], side, mark) for one, side, mark in zip(places, sides, marking)}
                    self.assertEqual(len(marks), len({(one['part'], side) for one, side in zip(places, sides)}))

    def test_refused(self):
        refuses(self, 'lot', walk_marking, TURNS, 'a', '..')
        refuses(self, 'lot', walk_marking, UNLIKE, 'ab', '.')
        refuses(self, 'lot', walk_marking, UNLIKE, '', '.')
        refuses(self, 'lot', walk_marking, UNLIKE, 'abz', '.')
        refuses(self, 'shape', walk_marking, UNLIKE, 'abc', '+...')
        refuses(self, 'lots', side_marking, SIDED, ('b', 'b'), '..')
        refuses(self, 'lots', side_marking, SIDED, ('a', ''), '.')
        refuses(self, 'lots', side_marking, SIDED, ('a', 'b', 'a'), '.')
        refuses(self, 'lots', side_marking, SIDED, ['a', 'b'], '.')
        refuses(self, 'lots', side_marking, DIST, ('a', 'b'), '.')
        refuses(self, 'shape', side_marking, SIDED, ('a', 'b'), '+...')
        for lots in (*ANY, ('a', 'z'), ('a', 'ba'), ('a', None), ('a', ['b']), ('a',), ('a', 'b', 'b'), 'ab'):
            if type(lots) is not tuple or len(lots) != 2 or lots not in list(itertools.product(['', 'a', 'b', 'ab'], repeat=2)):
                refuses(self, 'lots', are_side_lots, SIDED, lots)


class LadderTest(unittest.TestCase):
    def test_alike_below_sides(self):
        """(G2)"""
        for table in SOME:
            for mark in alike_marks(table):
                self.assertIn(mark, below_lots(table))
            for lot in below_lots(table):
                self.assertIs(are_side_lots(table, (lot,) * table[0]), True)
            if side_lots(table):
                self.assertIsNone(root_of(table))
            if below_lots(table):
                self.assertIsNotNone(ring_of(table))
            if ring_of(table):
                self.assertNotEqual(root_of(table), 0)


if __name__ == "__main__":
    unittest.main()
