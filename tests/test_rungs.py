"""Rungs, papers on them, and tables at once and side by side ([63] to [66])."""

import itertools
import random
import string
import unittest

from markladder.errors import InvalidPaper
from markladder.goodrows import root_of
from markladder.hardladders import ladder
from markladder.rings import ring_of
from markladder.roots import root_paper
from markladder.rungpapers import lets_rung, rung_paper
from markladder.rungs import is_at_least, rung_of
from markladder.tablesums import at_once, pairs_of, side_by_side
from markladder.walkerpapers import walker_paper
from markladder.walkers import alike_marks, below_lots, side_lots
from oracles import marks_in, right_markings, shapes_up_to, some_tables
from test_walkers import BOTH, SIDED_3, SOME
from values import (ANY, DIST, LONG, LOST, SIDED, STEPS, THREES, TURNS, UNLIKE, changed, faulty, outcome, refuses, same)

NAMES = ['log', 'sides', 'below', 'alike']
RUNGS = ['0', '1', '2', '3', '9', '10', '11', '99', '9' * 60, '1' + '0' * 59, *NAMES]


def height(rung):
    return (NAMES.index(rung), 0) if rung in NAMES else (-1, int(rung))


def ref_rung(table):
    root = root_of(table)
    if root is not None:
        return str(root)
    return 'alike' if alike_marks(table) else 'below' if below_lots(table) else 'sides' if side_lots(table) else 'log'


class RungsTest(unittest.TestCase):
    def test_rung_of(self):
        found = {}
        for table in SOME:
            same(self, rung_of(table=table), ref_rung(table))
            found[rung_of(table)] = table
        self.assertTrue({'0', '1', 'log', 'sides', 'below', 'alike'} <= set(found))
        for many in (2, 3):
            for k in (1, 2, 3, 4):
                same(self, rung_of(ladder(many, k)), str(k))
        for table, rung in ((LOST, '0'), (TURNS, '1'), (STEPS, '2'), (LONG, '2'), (DIST, 'log'), (SIDED, 'sides'), (UNLIKE, 'below'),
                            (BOTH, 'alike'), (SIDED_3, 'sides')):
            same(self, rung_of(table), rung)

    def test_is_at_least(self):
        for rung, other in itertools.product(RUNGS, RUNGS):
            self.assertIs(is_at_least(rung, other), height(rung) >= height(other))
        self.assertIs(is_at_least(rung='log', other='9'), True)

    def test_no_rungs(self):
        for thing in (*ANY, '00', '01', '-1', '+1', ' 1', '1 ', '1_0', '1' * 61, 'Log', 'side', '', 'log ', '1.0', '1\n'):
            if thing not in ('0', '1', '9', '10'):
                refuses(self, 'rung', is_at_least, thing, None)
                refuses(self, 'other', is_at_least, '0', thing)


class RungPapersTest(unittest.TestCase):
    def test_own_papers(self):
        for table in [*SOME, *[ladder(many, k) for many in (2, 3) for k in (1, 2, 3, 4)]]:
            paper = rung_paper(table=table)
            same(self, lets_rung(table=table, thing=paper), rung_of(table))
            same(self, paper[:2], ('rung', rung_of(table)))
            self.assertEqual(paper[3] is None, paper[1] not in ('log', 'sides'))

    def test_other_papers(self):
        same(self, lets_rung(BOTH, ('rung', 'alike', 'b', None)), 'alike')
        same(self, lets_rung(SIDED, ('rung', 'sides', ('lots', ('b', 'a')), walker_paper(SIDED, 'below'))), 'sides')
        same(self, lets_rung(UNLIKE, ('rung', 'below', ('lot', 'abc'), None)), 'below')
        same(self, lets_rung(DIST, ('rung', 'log', ('ever', ('abc',) * 7), walker_paper(DIST, 'sides'))), 'log')
        kept = ('kept', 'ab', 4, (1, 2))
        faulty(self, 'held', -1, lets_rung, TURNS, ('rung', '1', ('root', ('ab',), (kept,)), None))
        same(self, lets_rung(TURNS, ('rung', '1', ('root', ('ab',), (('kept', 'ab', 2, (1, 0)),)), None)), '1')

    def test_no_form(self):
        good = rung_paper(TURNS)
        for thing in (None, good[1:], good + (None,), list(good), ('Rung',) + good[1:], (True,) + good[1:], good[:3], ()):
            faulty(self, 'shape', -1, lets_rung, TURNS, thing)
        for rung in (None, 1, True, '01', '-1', '', 'Log', ('1',), ['1'], '1' * 61):
            faulty(self, 'rung', -1, lets_rung, TURNS, ('rung', rung, None, 7))

    def test_held(self):
        for table in (LOST, TURNS, STEPS, DIST, SIDED, UNLIKE, BOTH):
            _, rung, held, barred = rung_paper(table)
            for other in RUNGS:
                if other != rung:
                    faulty(self, 'held', -1, lets_rung, table, ('rung', other, held, 7))
            for wrong in (None, '', 'c', (held,), [held], ('none', ()), ('lot', 'a'), ('lots', ('a', 'a')), ('ever', ()), ('never', ()), 7):
                faulty(self, 'held', -1, lets_rung, table, ('rung', rung, wrong, 7))
                faulty(self, 'held', -1, lets_rung, table, ('rung', rung, wrong, barred))
        # Papers that there are no walkers hold nothing.
        faulty(self, 'held', -1, lets_rung, DIST, ('rung', 'sides', walker_paper(DIST, 'sides'), walker_paper(DIST, 'below')))
        faulty(self, 'held', -1, lets_rung, SIDED, ('rung', 'below', walker_paper(SIDED, 'below'), None))
        faulty(self, 'held', -1, lets_rung, UNLIKE, ('rung', 'alike', 'a', None))
        faulty(self, 'held', -1, lets_rung, BOTH, ('rung', 'alike', 'ab', None))
        faulty(self, 'held', -1, lets_rung, BOTH, ('rung', 'alike', '', None))
        faulty(self, 'held', -1, lets_rung, UNLIKE, ('rung', '0', root_paper(UNLIKE), None))
        faulty(self, 'held', -1, lets_rung, TURNS, ('rung', 'log', root_paper(TURNS), None))

    def test_barred(self):
        for table in (LOST, TURNS, DIST, SIDED, UNLIKE, BOTH):
            _, rung, held, barred = rung_paper(table)
            for wrong in (False, 0, '', (), ('none', ()), ('lot', 'a'), ('lots', ('a', 'b')), (barred,), [barred], 7):
                faulty(self, 'barred', -1, lets_rung, table, ('rung', rung, held, wrong))
            if rung in ('log', 'sides'):
                faulty(self, 'barred', -1, lets_rung, table, ('rung', rung, held, None))
        # What holds a lower rung is barred by nothing if the table is on a higher one.
        faulty(self, 'barred', -1, lets_rung, SIDED, ('rung', 'log', root_paper(SIDED), walker_paper(SIDED, 'sides')))
        faulty(self, 'barred', -1, lets_rung, SIDED, ('rung', 'log', root_paper(SIDED), walker_paper(SIDED, 'below')))
        faulty(self, 'barred', -1, lets_rung, UNLIKE, ('rung', 'sides', ('lots', ('abc', 'abc')), walker_paper(UNLIKE, 'below')))
        faulty(self, 'barred', -1, lets_rung, DIST, ('rung', 'log', root_paper(DIST), walker_paper(DIST, 'below')))

    def test_alike(self):
        faulty(self, 'alike', -1, lets_rung, BOTH, ('rung', 'below', ('lot', 'ab'), None))
        faulty(self, 'barred', -1, lets_rung, BOTH, ('rung', 'below', ('lot', 'ab'), ()))

    def test_changed_papers(self):
        chance = random.Random(74)
        pool = [None, True, 0, 1, '', 'a', 'ab', '0', '1', 'log', 'below', 'sides', 'alike', (), ('a',), ['a'], 'rung', ('lot', 'a')]
        accepted = 0
        for table in SOME:
            paper = rung_paper(table)
            for _ in range(20):
                thing = changed(chance, paper, pool)
                told = outcome(lets_rung, table, thing)
                if not told.startswith('InvalidPaper'):
                    same(self, told, repr(rung_of(table)))
                    accepted += 1
        self.assertTrue(accepted > 5)

    def test_any_value(self):
        for thing in ANY:
            for table in (SIDED, BOTH, TURNS):
                paper = rung_paper(table)
                for index in range(4):
                    other = paper[:index] + (thing,) + paper[index + 1:]
                    kept = repr(other)
                    if kept == repr(paper) or table == BOTH and index == 2 and thing == 'b':
                        same(self, lets_rung(table, other), rung_of(table))
                    else:
                        self.assertRaises(InvalidPaper, lets_rung, table, other)
                    self.assertEqual(repr(other), kept)
                self.assertRaises(InvalidPaper, lets_rung, table, thing)
        refuses(self, 'table', lets_rung, None, None)


PAIRS = [(one, other) for one in [*SOME[:8], *some_tables(75, 16, 'ab', 4), *some_tables(76, 10, 'abc', 5)]
         for other in [TURNS, SIDED, BOTH, (2, ('aab',)), (3, ('aaab', 'baab')), (3, ('aaaa', 'abbb', 'baaa')), THREES,
                       *some_tables(77, 8, 'abc', 6)]
         if one[0] == other[0] and len(marks_in(one)) * len(marks_in(other)) <= 9]


def ref_at_once(table, other):
    pairs = sorted(mark + end for mark in marks_in(table) for end in marks_in(other))
    letter = {pair: string.ascii_lowercase[index] for index, pair in enumerate(pairs)}
    rows = set()
    for row, late in itertools.product(table[1], other[1]):
        for order in itertools.permutations(late[1:]):
            rows.add(letter[row[0] + late[0]] + ''.join(sorted(letter[mark + end] for mark, end in zip(row[1:], order))))
    return (table[0], tuple(sorted(rows)))


class SumsTest(unittest.TestCase):
    def test_pairs_and_at_once(self):
        for table, other in PAIRS:
            pairs = tuple(mark + end for mark in marks_in(table) for end in marks_in(other))
            same(self, pairs_of(table, other), pairs)
            same(self, at_once(table, other), ref_at_once(table, other))
        same(self, pairs_of(table=SIDED, other=DIST), ('aa', 'ab', 'ac', 'ba', 'bb', 'bc'))
        same(self, at_once(table=SIDED, other=TURNS), (2, ('abd', 'bac', 'cbd', 'dac')))
        same(self, at_once((3, ('xyyz',)), (3, ('bbcd',))), ref_at_once((3, ('xyyz',)), (3, ('bbcd',))))

    def test_side_by_side(self):
        same(self, side_by_side((2, ('abc',)), (2, ('zyz',))), (2, ('abc', 'ede')))
        same(self, side_by_side(table=(2, ('cac',)), other=LOST), (2, ('cac', 'def', 'edd', 'eef')))
        for table, other in PAIRS:
            told = dict(zip(marks_in(other), string.ascii_lowercase[ord(marks_in(table)[-1]) - 96:]))
            rows = {''.join(told[mark] for mark in row) for row in other[1]}
            same(self, side_by_side(table, other), (table[0], tuple(sorted(rows | {*table[1]}))))

    def test_alphabet(self):
        def wide(marks):
            return (2, tuple(mark * 3 for mark in marks))
        letters = string.ascii_lowercase
        same(self, len(pairs_of(wide('ab'), wide(letters[:13]))), 26)
        same(self, at_once(wide('b'), wide(letters))[1][-1], 'zzz')
        refuses(self, 'other', pairs_of, wide('abc'), wide(letters[:9]))
        refuses(self, 'other', at_once, wide('abc'), wide(letters[:9]))
        refuses(self, 'other', at_once, wide(letters), wide('ab'))
        same(self, side_by_side(wide(letters[:20]), wide(letters[-6:]))[1][-1], 'zzz')
        same(self, side_by_side(wide('y'), wide('a')), (2, ('yyy', 'zzz')))
        refuses(self, 'other', side_by_side, wide(letters[:20]), wide(letters[:7]))
        refuses(self, 'other', side_by_side, wide('z'), wide('a'))
        for function in (pairs_of, at_once, side_by_side):
            refuses(self, 'other', function, TURNS, THREES)
            refuses(self, 'other', function, THREES, TURNS)
            refuses(self, 'table', function, (2, ()), None)

    def test_rungs(self):
        """(G3)"""
        for table, other in PAIRS:
            low, high = sorted([rung_of(table), rung_of(other)], key=height)
            same(self, rung_of(at_once(table, other)), low)
            same(self, rung_of(side_by_side(table, other)), high)
            self.assertEqual(ring_of(at_once(table, other)) is None, ring_of(table) is None or ring_of(other) is None)
            self.assertEqual(ring_of(side_by_side(table, other)) is None, ring_of(table) is None and ring_of(other) is None)
            for joined in (at_once(table, other), side_by_side(table, other)):
                same(self, lets_rung(joined, rung_paper(joined)), rung_of(joined))

    def test_right_markings(self):
        """[66]"""
        for table, other in PAIRS[::3]:
            if len(marks_in(table)) * len(marks_in(other)) > 4:
                continue
            joined, pairs = at_once(table, other), pairs_of(table, other)
            for shape in shapes_up_to(table[0], 5 if table[0] == 2 else 4):
                right = set(right_markings(joined, shape, '?' * len(shape)))
                ones = set(right_markings(table, shape, '?' * len(shape)))
                ends = set(right_markings(other, shape, '?' * len(shape)))
                for signs in itertools.product(string.ascii_lowercase[:len(pairs)], repeat=len(shape)):
                    told = [pairs[string.ascii_lowercase.index(sign)] for sign in signs]
                    marks = marks_in(joined)
                    if all(sign in marks for sign, place in zip(signs, shape) if place == '.'):
                        both = ''.join(pair[0] for pair in told) in ones and ''.join(pair[1] for pair in told) in ends
                        self.assertEqual(''.join(signs) in right, both)

    def test_right_markings_side_by_side(self):
        for table, other in PAIRS[::5]:
            joined = side_by_side(table, other)
            if len(marks_in(joined)) <= 5:
                for shape in shapes_up_to(table[0], 5 if table[0] == 2 else 4):
                    for marking in right_markings(joined, shape, '?' * len(shape)):
                        self.assertTrue(set(marking) <= set(marks_in(table)) or not set(marking) & set(marks_in(table)))


if __name__ == "__main__":
    unittest.main()
