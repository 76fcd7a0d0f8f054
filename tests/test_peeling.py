"""Rounds of peelings and stretches, markings by them, and hard shapes ([67] to [70])."""

import itertools
import random
import unittest

from markladder.errors import NoMarking, RuleError
from markladder.fulls import full_shape, lasting
from markladder.goodrows import good_rows, root_of
from markladder.hardladders import ladder
from markladder.hardshapes import hard_shape
from markladder.marking import tops_by
from markladder.parts import loose_parts, reach_of
from markladder.peeling import least_g, left_after, rounds_of
from markladder.roundmarks import agrees, round_marking, top_marking
from oracles import is_right, marks_in, places_in, right_markings, shapes_up_to, some_shape, some_tables
from values import ANY, LONG, LOST, STEPS, TABLES, TURNS, UNLIKE, refuses, same

COMB, DEEP = '+.+.+.+..', '+.++..++..+..'
ROW = ('abcd', 'cd', 'cd')
CHANCE = random.Random(80)
SHAPES = [(many, shape) for many in (2, 3) for shape in shapes_up_to(many, 9 if many == 2 else 10)]
SHAPES += [(many, some_shape(CHANCE, many, CHANCE.randint(8, 29 if many == 2 else 19))) for many in (2, 3) for _ in range(40)]
SHAPES += [(2, '+.' * 29 + '.'), (2, '+' * 29 + '.' * 30), (2, full_shape(2, 4)), (3, full_shape(3, 3)), (2, hard_shape(2, 2, 5, 1))]
SOME = [*SHAPES[::4], *SHAPES[-40:]]


def parents_of(many, shape):
    return [told['parent'] for told in places_in(many, shape)], [told['children'] for told in places_in(many, shape)]


def peel(children, left):
    return {place for place in left if not any(child in left for child in children[place])}


def stretches(parents, children, left):
    """All stretches, as lists of places."""
    only = {place: [child for child in children[place] if child in left] for place in left}
    single = {place for place in left if len(only[place]) == 1}
    rows = []
    for place in sorted(single):
        parent = parents[place]
        if parent in left and only[parent] == [place]:
            continue
        row = [place]
        while only[row[-1]][0] in single:
            row.append(only[row[-1]][0])
        rows.append(row)
    return rows


def play(many, shape, g, l, k):
    """For each place its word and round, how many places are left after each round, and the peelings of round k."""
    parents, children = parents_of(many, shape)
    left, told, counts, peelings = set(range(len(shape))), {}, [len(shape)], 0
    for number in range(1, k + 1):
        peelings = 0
        while left and (number == k or peelings < g):
            gone = peel(children, left)
            told.update({place: ('peel', number) for place in gone})
            left -= gone
            peelings += 1
        if number < k:
            gone = {place for row in stretches(parents, children, left) if len(row) >= l for place in row}
            told.update({place: ('stretch', number) for place in gone})
            left -= gone
        counts.append(len(left))
    return tuple(told[place] for place in range(len(shape))), counts, peelings


class RoundsTest(unittest.TestCase):
    def test_rounds_of(self):
        words = set()
        for many, shape in SOME:
            for g, l, k in itertools.product((1, 2, 3), (1, 2, 3, 5), (1, 2, 3, 7)):
                told, _, _ = play(many, shape, g, l, k)
                same(self, rounds_of(many, shape, g, l, k), told)
                words.update(told)
        self.assertTrue({('peel', 1), ('stretch', 1), ('peel', 3), ('stretch', 3), ('peel', 5)} <= words)
        same(self, rounds_of(many=2, shape='+..', g=1, l=1, k=1), (('peel', 1),) * 3)

    def test_left_after(self):
        for many, shape in SOME:
            for g, l in ((1, 1), (1, 3), (2, 2)):
                _, counts, _ = play(many, shape, g, l, 12)
                for i in range(12):
                    same(self, left_after(many, shape, g, l, i), counts[i])
                for i in range(11):
                    self.assertTrue(left_after(many, shape, g, l, i + 1) * g <= 2 * l * left_after(many, shape, g, l, i))
        same(self, left_after(many=2, shape=COMB, g=1, l=4, i=1), 4)
        same(self, left_after(2, COMB, 9, 1, 0), 9)

    def test_least_g(self):
        several = set()
        for many, shape in SOME:
            for l, k in itertools.product((1, 2, 4), (1, 2, 3, 6)):
                found = next(g for g in itertools.count(1) if play(many, shape, g, l, k)[2] <= g)
                same(self, least_g(many, shape, l, k), found)
                several.add(found)
                size = len(shape)
                for g in range(1, 40):
                    if g ** k >= size * (2 * l) ** (k - 1):
                        self.assertTrue(found <= g)
            same(self, least_g(many, shape, 1, 1), max(told['depth'] for told in places_in(many, shape)) + 1)
        self.assertTrue(len(several) > 6)
        same(self, least_g(many=2, shape=COMB, l=2, k=2), 1)

    def test_numbers_of_any_size(self):
        great = 10 ** 59
        for many, shape in SOME[:40]:
            same(self, rounds_of(many, shape, great, great, great), (('peel', 1),) * len(shape))
            same(self, rounds_of(many, shape, 1, great, great), play(many, shape, 1, great, 70)[0])
            same(self, left_after(many, shape, 1, great, great), 0)
            same(self, left_after(many, shape, great, 1, 1), 0)
            same(self, least_g(many, shape, great, great), 1)

    def test_one_round_more(self):
        for many, shape in SOME[:60]:
            for k in (1, 2, 3):
                fewer, more = rounds_of(many, shape, 1, 2, k), rounds_of(many, shape, 1, 2, k + 1)
                for one, other in zip(fewer, more):
                    if one[1] < k:
                        self.assertEqual(one, other)
                    else:
                        self.assertIn(other[1], (k, k + 1))

    def test_great_shapes(self):
        great = hard_shape(2, 3, 4, 1)
        same(self, rounds_of(2, great, 2, 4, 3), play(2, great, 2, 4, 3)[0])
        deep = '+.' * 300 + '.'
        same(self, least_g(2, deep, 1, 1), 301)
        same(self, left_after(2, deep, 1, 1, 1), 1)

    def test_refused(self):
        for thing in (0, -1, True, None, '1', (1,), [1]):
            refuses(self, 'g', rounds_of, 2, COMB, thing, 2, 1)
            refuses(self, 'l', rounds_of, 2, COMB, 1, thing, True)
            refuses(self, 'k', rounds_of, 2, COMB, 1, 2, thing)
            refuses(self, 'l', least_g, 2, COMB, thing, 0)
            refuses(self, 'k', least_g, 2, COMB, 1, thing)
            if thing != 0 or thing is False:
                refuses(self, 'i', left_after, 2, COMB, 1, 2, thing)
        refuses(self, 'shape', rounds_of, 3, COMB, 0, 0, 0)
        refuses(self, 'many', least_g, True, COMB, 0, 0)


def reach(table, row):
    return max([reach_of(table, row[index - 1], row[index]) for index in range(1, len(row), 2)], default=1)


def ref_agrees(table, row, shape, g, l, marking):
    told, _, _ = play(table[0], shape, g, l, (len(row) + 1) // 2)
    lots = [row[2 * (number - 1)] if word == 'peel' else row[2 * (number - 1) + 1] for word, number in told]
    return is_right(table, shape, marking) and all(mark in lot for mark, lot in zip(marking, lots))


LADDERS = [ladder(many, k) for many in (2, 3) for k in (1, 2, 3)]
TABLES_AND_ROWS = [(table, row) for table in [*TABLES, *LADDERS, *some_tables(81, 60, 'abc', 6), *some_tables(82, 60, 'abcd', 9)]
                   for row in (good_rows(table) if len(good_rows(table)) < 4 else good_rows(table)[:3])]


class RoundMarkingsTest(unittest.TestCase):
    def test_round_marking(self):
        chance = random.Random(83)
        for table, row in TABLES_AND_ROWS:
            rows = [row[:end] for end in range(1, len(row) + 1, 2)]
            if row[-1] in loose_parts(table, row[-1]):
                rows.append(row + (row[-1],) * 4)
            shapes = [shape for many, shape in chance.sample(SHAPES, 10) if many == table[0]]
            for one, shape in itertools.product(rows, shapes):
                for g, l in ((1, reach(table, one)), (2, reach(table, one) + 1), (10 ** 30, 10 ** 30)):
                    marking = round_marking(table, one, shape, g, l)
                    self.assertTrue(ref_agrees(table, one, shape, g, l, marking), (table, one, shape, g, l))
                    self.assertIs(agrees(table, one, shape, g, l, marking), True)
        same(self, agrees(table=STEPS, row=ROW, shape=COMB, g=1, l=2, marking='cacacacdd'), True)
        self.assertIn(round_marking(table=TURNS, row=('ab',), shape='+..', g=1, l=1), ('abb', 'baa'))

    def test_agrees(self):
        chance = random.Random(84)
        found = set()
        for table, row in TABLES_AND_ROWS[::2]:
            for many, shape in chance.sample(SHAPES, 12):
                if many == table[0] and len(shape) <= 7:
                    g, l = chance.choice((1, 1, 2)), reach(table, row)
                    right = right_markings(table, shape, '?' * len(shape))
                    others = [''.join(chance.choice(marks_in(table) + 'z') for _ in shape) for _ in range(4)]
                    for marking in chance.sample(right, min(len(right), 12)) + others:
                        told = ref_agrees(table, row, shape, g, l, marking)
                        found.add((told, is_right(table, shape, marking)))
                        self.assertIs(agrees(table, row, shape, g, l, marking), told)
        self.assertEqual(found, {(True, True), (False, True), (False, False)})

    def test_marks_of_stretches(self):
        # On a stretch stand marks of the loose part, not only those that last in it: c does not last in acde.
        table = (2, ('aaa', 'abc', 'ace', 'bbb', 'cab', 'dad', 'ede'))
        row = ('abcde', 'acde', 'ade', 'a', 'a')
        for marking, told in (('cbaaaaaaa', True), ('acbbbbbbb', False), ('abcabbbbb', False), ('aaaaaaaaa', True)):
            self.assertEqual(is_right(table, COMB, marking), True)
            self.assertEqual(ref_agrees(table, row, COMB, 1, 3, marking), told)
            self.assertIs(agrees(table, row, COMB, 1, 3, marking), told)
            self.assertIs(agrees(table, row[:3], COMB, 1, 3, marking), ref_agrees(table, row[:3], COMB, 1, 3, marking))

    def test_rows_of_length_1(self):
        for table, row in TABLES_AND_ROWS[::3]:
            for _, shape in [one for one in SHAPES if one[0] == table[0]][:3]:
                for marking in right_markings(table, shape, '?' * len(shape)):
                    self.assertIs(agrees(table, row[:1], shape, 1, 1, marking), set(marking) <= set(row[0]))

    def test_top_marking(self):
        for table in [*TABLES, *LADDERS, *some_tables(85, 80, 'abcd', 8)]:
            lot = lasting(table, marks_in(table))
            for many, shape in SOME[::9]:
                if many == table[0]:
                    if lot == '':
                        with self.assertRaises(NoMarking) as caught:
                            top_marking(table, shape)
                        same(self, caught.exception.shape, shape)
                        self.assertIsInstance(caught.exception, RuleError)
                        self.assertEqual(root_of(table), 0)
                    else:
                        marking = top_marking(table=table, shape=shape)
                        self.assertTrue(is_right(table, shape, marking) and set(marking) <= set(lot))
                        self.assertIs(agrees(table, (lot,), shape, 1, 1, marking), True)
        # A right marking has marks that do not last, but this one has none.
        table = (2, ('aab', 'abb', 'bbb', 'caa'))
        self.assertNotIn('c', top_marking(table, '+..'))

    def test_refused(self):
        good = [STEPS, ROW, COMB, 1, 2, 'cacacacdd']
        for row in ((), ('cd',), ('abcd', 'cd'), ['abcd'], 'abcd', ('abcd', 'ab', 'ab'), None):
            refuses(self, 'row', round_marking, STEPS, row, '..', 0, 0)
            refuses(self, 'row', agrees, STEPS, row, '..', 0, 0, None)
        refuses(self, 'row', round_marking, LOST, ('abc',), '.', 1, 1)
        refuses(self, 'shape', agrees, STEPS, ROW, '+...', 0, 0, None)
        for thing in (0, True, None, -1, '1'):
            refuses(self, 'g', agrees, STEPS, ROW, COMB, thing, 1, None)
            refuses(self, 'l', agrees, STEPS, ROW, COMB, 1, thing, None)
        refuses(self, 'l', agrees, STEPS, ROW, COMB, 1, 1, None)
        self.assertIs(agrees(STEPS, ('abcd',), COMB, 1, 1, 'cacacacdd'), True)
        for marking in ('cacacacd', 'cacacacddd', '?acacacdd', '', None, list('cacacacdd'), 'Cacacacdd'):
            refuses(self, 'marking', agrees, *good[:5], marking)
        for thing in ANY:
            if type(thing) is not str or len(thing) != 1 or not 'a' <= thing <= 'z':
                refuses(self, 'marking', agrees, TURNS, ('ab',), '.', 1, 1, thing)
        self.assertIs(agrees(TURNS, ('ab',), '.', 1, 1, 'z'), False)

    def test_greatest_reach(self):
        later = (2, ('abb', 'abf', 'ade', 'baa', 'bef', 'cae', 'dad', 'eaf', 'ecf', 'eee', 'fff'))
        row = ('abcdef', 'abcde', 'abcde', 'abd', 'abd')
        self.assertEqual([reach_of(later, row[0], row[1]), reach_of(later, row[2], row[3])], [3, 4])
        sooner = next((table, one) for table, one in TABLES_AND_ROWS if len(one) == 5)
        for table, row in ((later, row), sooner):
            for l in range(1, 12):
                if l < reach(table, row):
                    refuses(self, 'l', round_marking, table, row, COMB, 1, l)
                    refuses(self, 'l', agrees, table, row, COMB, 1, l, None)
                else:
                    shape = '.' if table[0] == 3 else COMB
                    self.assertTrue(ref_agrees(table, row, shape, 1, l, round_marking(table, row, shape, 1, l)))


def ref_hard(many, i, s, h):
    if i == 1:
        return full_shape(many, h)
    inner = ref_hard(many, i - 1, s, h)

    def stretch(left):
        first = inner if left == 1 else stretch(left - 1)
        return '+' + first + inner * (many - 1)
    return ''.join(stretch(s) if sign == '.' else sign for sign in full_shape(many, h + 1))


class HardShapesTest(unittest.TestCase):
    def test_hard_shape(self):
        for many, i, s, h in itertools.product((2, 3), (1, 2, 3), (1, 2, 3), (0, 1)):
            if len(hard_shape(2, i, s, h)) < 300:
                shape = hard_shape(many, i, s, h)
                same(self, shape, ref_hard(many, i, s, h))
                upper, inner = full_shape(many, h + 1), len(shape)
                leaves = upper.count('.')
                later = hard_shape(many, i + 1, s, h)
                self.assertEqual(len(later), upper.count('+') + leaves * (s + inner * (1 + (many - 1) * s)))
        same(self, hard_shape(many=2, i=2, s=2, h=0), '+++...++...')
        same(self, hard_shape(2, 1, 10 ** 50, 3), full_shape(2, 3))
        same(self, len(hard_shape(2, 2, 400, 0)), 1 + 2 * (400 + 401))

    def test_tops(self):
        for table in [TURNS, LOST, STEPS, UNLIKE, LONG, *some_tables(86, 30, 'abc', 6)]:
            h = len(marks_in(table)) if table[0] == 2 else 3
            if len(marks_in(table)) <= h <= 4:
                for i, s in ((1, 1), (2, 1), (2, 3)):
                    shape = hard_shape(table[0], i, s, h)
                    if len(shape) <= 4000:
                        same(self, tops_by(table, shape, '?' * len(shape)), lasting(table, marks_in(table)))

    def test_refused(self):
        for thing in (0, -1, True, None, '1', [1]):
            refuses(self, 'i', hard_shape, 2, thing, 0, -1)
            refuses(self, 's', hard_shape, 2, 1, thing, -1)
            refuses(self, 's', hard_shape, 2, 2, thing, -1)
        for thing in (-1, True, None, '1', [1]):
            refuses(self, 'h', hard_shape, 2, 1, 1, thing)
        for thing in (0, 1, 4, True, None, '2'):
            refuses(self, 'many', hard_shape, thing, 0, 0, 0)


if __name__ == "__main__":
    unittest.main()
