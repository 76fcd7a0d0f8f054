"""Rings and papers on them ([59], [61])."""

import itertools
import random
import unittest

from markladder.errors import InvalidPaper
from markladder.rings import is_ring, lets_ring, ring_marking, ring_of, ring_paper
from oracles import is_right, marks_in, places_in, shapes_up_to, some_tables
from values import ANY, DIST, LOST, SIDED, TABLES, TURNS, UNLIKE, changed, faulty, first_fault, outcome, refuses, same

CIRCLE = (3, ('abbb', 'bccc', 'cddd', 'daaa', 'dddd'))
TAIL = (2, ('abb', 'abc', 'bcc', 'cbb', 'ccd', 'daa'))
SOME = [*TABLES, CIRCLE, TAIL, *some_tables(62, 150, 'abcd', 7), *some_tables(63, 60, 'ab', 4)]


def alone(table, mark, other):
    return mark + other * table[0] in table[1]


def all_rings(table):
    marks = marks_in(table)
    rings = [ring for size in range(1, len(marks) + 1) for ring in itertools.permutations(marks, size)]
    return [ring for ring in rings if all(alone(table, ring[index - 1], ring[index]) for index in range(len(ring)))]


def paper_faults(table, thing):
    """The faults of a paper, in order, as the document lists them."""
    form = isinstance(thing, tuple) and len(thing) == 2
    if not form or not (thing[0] == 'ring' and type(thing[1]) is tuple or thing[0] == 'none' and type(thing[1]) is str):
        yield 'shape', -1
    marks = marks_in(table)
    if thing[0] == 'ring':
        ring = thing[1]
        if ring == () or not all(type(mark) is str and mark in list(marks) for mark in ring) or len({*ring}) < len(ring):
            yield 'ring', -1
        for index, mark in enumerate(ring):
            if not alone(table, mark, (ring + ring[:1])[index + 1]):
                yield 'next', index
    else:
        order = thing[1]
        if ''.join(sorted(order)) != marks:
            yield 'order', -1
        for index, row in enumerate(table[1]):
            if len(set(row[1:])) == 1 and order.find(row[0]) >= order.find(row[1]):
                yield 'row', index


class RingsTest(unittest.TestCase):
    def test_is_ring(self):
        for table in SOME:
            rings = all_rings(table)
            for size in range(1, len(marks_in(table)) + 2 if len(marks_in(table)) < 4 else 4):
                for thing in itertools.product(marks_in(table), repeat=size):
                    self.assertIs(is_ring(table, thing), thing in rings)
        same(self, all_rings(CIRCLE), [('d',), *[tuple('abcdabc'[index:index + 4]) for index in range(4)]])
        for ring in all_rings(CIRCLE):
            self.assertIs(is_ring(table=CIRCLE, thing=ring), True)

    def test_other_values(self):
        for thing in (*ANY, ('a', 'b', 'a', 'b'), ['a', 'b'], 'ab', ('ab',), ('a', ['b']), ('a', None), ('a', 'z'), ('a', ('b',)), ()):
            with self.subTest(thing=repr(thing)[:80]):
                kept = repr(thing)
                self.assertIs(is_ring(TURNS, thing), thing in (('a', 'b'), ('b', 'a')))
                self.assertEqual(repr(thing), kept)
        # Rows with one mark below that are not alone make no ring.
        self.assertIs(is_ring((2, ('abc', 'bab', 'cab')), ('a', 'b')), False)

    def test_ring_of(self):
        none = 0
        for table in SOME:
            ring = ring_of(table=table)
            if ring is None:
                same(self, all_rings(table), [])
                none += 1
            else:
                self.assertIn(ring, all_rings(table))
                self.assertTrue(type(ring) is tuple)
        self.assertTrue(20 < none < len(SOME) - 20)
        self.assertIn(ring_of(TAIL), (('b', 'c'), ('c', 'b')))

    def test_ring_marking(self):
        for table in SOME:
            for ring in all_rings(table)[:3]:
                for shape in shapes_up_to(table[0], 8):
                    depths = [told['depth'] for told in places_in(table[0], shape)]
                    marking = ring_marking(table, ring, shape)
                    same(self, marking, ''.join((ring * 9)[depth] for depth in depths))
                    self.assertTrue(is_right(table, shape, marking))
        same(self, ring_marking(table=CIRCLE, ring=('d',), shape='+...'), 'dddd')

    def test_refused(self):
        refuses(self, 'ring', ring_marking, TURNS, ('a',), '..')
        refuses(self, 'ring', ring_marking, SIDED, ('a',), '.')
        refuses(self, 'ring', ring_marking, TURNS, ['a', 'b'], '.')
        refuses(self, 'shape', ring_marking, TURNS, ('a', 'b'), '+...')


class RingPapersTest(unittest.TestCase):
    def test_own_papers(self):
        for table in SOME:
            paper = ring_paper(table=table)
            same(self, lets_ring(table, paper), ring_of(table) is not None)
            same(self, lets_ring(table=table, thing=paper), paper[0] == 'ring')

    def test_all_papers(self):
        kinds = set()
        for table in SOME[:80]:
            marks = marks_in(table)
            rings = [('ring', ring) for size in range(4) for ring in itertools.product(marks + 'z', repeat=size)]
            orders = [('none', ''.join(order)) for order in itertools.permutations(marks)]
            for paper in rings + orders + [('none', marks[1:]), ('none', marks + marks[0]), ('none', marks + 'z')]:
                fault = first_fault(paper_faults(table, paper))
                kinds.add(fault)
                self.assertEqual(outcome(lets_ring, table, paper), fault or repr(paper[0] == 'ring'))
        self.assertTrue(len(kinds) > 12)

    def test_one_kind_alone(self):
        for table in SOME[:80]:
            papers = [('none', ''.join(order)) for order in itertools.permutations(marks_in(table))]
            right = [paper for paper in papers if first_fault(paper_faults(table, paper)) is None]
            self.assertEqual(right == [], all_rings(table) != [])

    def test_faults(self):
        same(self, lets_ring(CIRCLE, ('ring', ('c', 'd', 'a', 'b'))), True)
        same(self, lets_ring(DIST, ('none', 'bca')), False)
        for thing in (None, 'ring', ('ring',), ('ring', 'ab'), ('ring', ['a', 'b']), ('none', ('a', 'b')), ('ring', ('a', 'b'), 2),
                      ['ring', ('a', 'b')], ('never', 'ab'), (True, ('a', 'b')), ()):
            faulty(self, 'shape', -1, lets_ring, TURNS, thing)
        for ring in ((), ('a', 'b', 'a'), ('a', 'z'), ('ab',), ('a', None), (['a'], 'b'), ('a', True), ('',)):
            faulty(self, 'ring', -1, lets_ring, TURNS, ('ring', ring))
        faulty(self, 'next', 1, lets_ring, CIRCLE, ('ring', ('a', 'b', 'd', 'c')))
        faulty(self, 'next', 0, lets_ring, CIRCLE, ('ring', ('a', 'c', 'b', 'd')))
        faulty(self, 'next', 2, lets_ring, CIRCLE, ('ring', ('a', 'b', 'c')))
        faulty(self, 'next', 0, lets_ring, CIRCLE, ('ring', ('b',)))
        for order in ('', 'abc', 'abca', 'abcz', 'abbc', 'ab c'):
            faulty(self, 'order', -1, lets_ring, (2, ('abb', 'bcc', 'cdd')), ('none', order))
        table = (2, ('abb', 'bad', 'bcc', 'ccd'))
        same(self, lets_ring(table, ('none', 'adbc')), False)
        faulty(self, 'row', 0, lets_ring, table, ('none', 'bacd'))
        faulty(self, 'row', 2, lets_ring, table, ('none', 'acbd'))
        faulty(self, 'row', 0, lets_ring, table, ('none', 'cbad'))
        faulty(self, 'row', 1, lets_ring, (2, ('abb', 'bbb')), ('none', 'ab'))
        faulty(self, 'row', 0, lets_ring, TURNS, ('none', 'ba'))

    def test_changed_papers(self):
        chance = random.Random(64)
        pool = [None, True, 0, '', 'a', 'b', 'ab', 'ba', 'abc', (), ('a',), ('a', 'b'), ['a'], 'ring', 'none']
        for table in SOME[:60]:
            paper = ring_paper(table)
            for _ in range(40):
                thing = changed(chance, paper, pool)
                fault = first_fault(paper_faults(table, thing))
                self.assertEqual(outcome(lets_ring, table, thing), fault or repr(thing[0] == 'ring'))

    def test_any_value(self):
        for thing in ANY:
            for paper in (thing, ('ring', thing), ('none', thing), (thing, 'ab'), ('ring', (thing,)), ('ring', ('a', thing))):
                kept = repr(paper)
                fault = first_fault(paper_faults(TURNS, paper))
                self.assertEqual(outcome(lets_ring, TURNS, paper), fault or repr(paper[0] == 'ring'))
                self.assertEqual(repr(paper), kept)
        refuses(self, 'table', lets_ring, None, None)
        self.assertRaises(InvalidPaper, lets_ring, LOST, ('ring', ('b',)))
        same(self, lets_ring(UNLIKE, ('ring', ('b', 'c', 'a'))), True)


if __name__ == "__main__":
    unittest.main()
