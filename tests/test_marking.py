"""Right markings ([4], [31] to [34])."""

import random
import unittest

from markladder.marking import count_filled, faults_of, filled, forced, is_right, tops_by
from oracles import marks_in, places_in, right_markings, shapes_up_to, some_shape, some_tables
from oracles import is_right as ref_right
from values import DIST, LOST, TABLES, THREES, TURNS, UNLIKE, refuses, same

FILLERS = (tops_by, filled, count_filled, forced)


def some_marking(chance, shape, signs):
    return ''.join(chance.choice(signs) for _ in shape)


def forced_by(found):
    return ''.join(signs[0] if len(set(signs)) == 1 else '?' for signs in zip(*found))


def told(function, table, shape, found):
    """What a function tells if just these markings are right and agree."""
    if function is count_filled:
        return len(found)
    if function is tops_by:
        return ''.join(sorted({marking[0] for marking in found}))
    if not found:
        return None
    return found[0] if function is filled else forced_by(found)


class FaultsTest(unittest.TestCase):
    def ref_faults(self, table, shape, marking):
        faults = []
        for place, told_of in enumerate(places_in(table[0], shape)):
            signs = [marking[child] for child in told_of['children']]
            if not signs and marking[place] != '?' and marking[place] not in marks_in(table):
                faults.append(place)
            if signs and '?' not in [marking[place], *signs]:
                if marking[place] + ''.join(sorted(signs)) not in table[1]:
                    faults.append(place)
        return tuple(faults)

    def test_by_definition(self):
        chance = random.Random(14)
        for table in [*TABLES, *some_tables(15, 40)]:
            for _ in range(30):
                shape = some_shape(chance, table[0], chance.randint(0, 8))
                marking = some_marking(chance, shape, chance.choice(('ab', 'abc', 'abc?', 'abcz?', marks_in(table))))
                same(self, faults_of(table, shape, marking), self.ref_faults(table, shape, marking))
                whole = '?' not in marking
                same(self, is_right(table, shape, marking), whole and ref_right(table, shape, marking))

    def test_plain(self):
        same(self, faults_of(TURNS, '.', '?'), ())
        same(self, faults_of(TURNS, '.', 'z'), (0,))
        same(self, faults_of(TURNS, '.', 'a'), ())
        same(self, is_right(TURNS, '.', '?'), False)
        same(self, faults_of(TURNS, '+..', 'zzz'), (0, 1, 2))
        same(self, faults_of(TURNS, '+..', '?zz'), (1, 2))
        same(self, faults_of(TURNS, '+..', 'zb?'), ())
        same(self, faults_of(DIST, '+..', 'acb'), ())
        same(self, faults_of(THREES, '+...', 'acab'), ())
        same(self, faults_of(table=TURNS, shape='+..', marking='abb'), ())
        same(self, is_right(table=TURNS, shape='+..', marking='abb'), True)

    def test_every_small_marking(self):
        for shape in shapes_up_to(2, 5):
            right = right_markings(LOST, shape, '?' * len(shape))
            for marking in right:
                same(self, (faults_of(LOST, shape, marking), is_right(LOST, shape, marking)), ((), True))


class FilledTest(unittest.TestCase):
    def check_marking(self, table, shape, marking):
        found = right_markings(table, shape, marking)
        for function in FILLERS:
            with self.subTest(function=function.__name__, table=table, shape=shape, marking=marking):
                same(self, function(table, shape, marking), told(function, table, shape, found))

    def test_all_small_shapes(self):
        chance = random.Random(16)
        for table in (TURNS, UNLIKE, DIST, LOST, *some_tables(17, 12)):
            for shape in shapes_up_to(table[0], 7):
                self.check_marking(table, shape, '?' * len(shape))
                for _ in range(3):
                    self.check_marking(table, shape, some_marking(chance, shape, 'a??b?c?z'[:chance.randint(3, 8)]))
                    self.check_marking(table, shape, some_marking(chance, shape, '????' + marks_in(table)))

    def test_greater_shapes(self):
        chance = random.Random(18)
        for table in some_tables(19, 40, 'ab', 5):
            shape = some_shape(chance, table[0], 5 if table[0] == 2 else 4)
            self.check_marking(table, shape, some_marking(chance, shape, '??????ab'))
            self.check_marking(table, shape, '?' * len(shape))

    def test_plain(self):
        same(self, [function(TURNS, '.', '?') for function in FILLERS], ['ab', 'a', 2, '?'])
        same(self, [function(TURNS, '.', 'b') for function in FILLERS], ['b', 'b', 1, 'b'])
        same(self, [function(TURNS, '.', 'z') for function in FILLERS], ['', None, 0, None])
        same(self, [function(LOST, '+++..+..+..', '?' * 11) for function in FILLERS], ['', None, 0, None])
        same(self, [function(table=TURNS, shape='+..', marking='??b') for function in FILLERS], ['a', 'abb', 1, 'abb'])

    def test_counts_of_orders(self):
        three = (3, ('aabb', 'babc', 'cccc'))
        same(self, count_filled(three, '+...', 'a???'), 3)
        same(self, count_filled(three, '+...', 'b???'), 6)
        same(self, count_filled(three, '+...', '????'), 10)
        same(self, count_filled(three, '+...', '??b?'), 4)

    def test_great_shapes(self):
        free = (2, tuple(sorted(top + below for top in 'ab' for below in ('aa', 'ab', 'bb'))))
        comb = '+.' * 29 + '.'
        same(self, count_filled(free, comb, '?' * 59), 2 ** 59)
        same(self, filled(free, comb, '?' * 59), 'a' * 59)
        same(self, filled(TURNS, comb, '?' * 58 + 'b'), 'abb' + 'aabb' * 14)
        same(self, forced(TURNS, comb, 'b' + '?' * 58), 'baa' + 'bbaa' * 14)
        same(self, count_filled(TURNS, comb, '?' * 59), 2)

    def test_consequences(self):
        chance = random.Random(20)
        for table in some_tables(21, 60, 'abcd', 12):
            shape = some_shape(chance, table[0], chance.randint(0, 15))
            marking = some_marking(chance, shape, '?' * 12 + 'abcd')
            tops, least, count, sure = [function(table, shape, marking) for function in FILLERS]
            self.assertEqual({least is None, sure is None, count == 0, tops == ''}, {least is None})
            place = chance.randrange(len(shape))
            looser = marking[:place] + '?' + marking[place + 1:]
            self.assertTrue(set(tops) <= set(tops_by(table, shape, looser)))
            self.assertTrue(count <= count_filled(table, shape, looser))
            if sure is not None:
                firmer = ''.join(mark if sign == '?' else sign for sign, mark in zip(marking, sure))
                same(self, firmer, sure)
                same(self, (count_filled(table, shape, sure), filled(table, shape, sure)), (count, least))
                self.assertTrue(is_right(table, shape, least))
                self.assertEqual(least[0], tops[0])

    def test_markings_for_other_shapes(self):
        for function in (faults_of, is_right, *FILLERS):
            for marking in ('ab', 'abbb', '', 'aBb', 'ab_', None, ['a', 'b', 'b'], ('a', 'b', 'b')):
                refuses(self, 'marking', function, TURNS, '+..', marking)
            refuses(self, 'shape', function, TURNS, '+...', 'abbb')
            refuses(self, 'shape', function, THREES, '+..', None)


if __name__ == "__main__":
    unittest.main()
