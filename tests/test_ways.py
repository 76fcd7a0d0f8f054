"""Papers on ways ([46], [47])."""

import itertools
import unittest

from markladder.arrows import ends_by, way_of
from markladder.errors import InvalidPaper
from markladder.ways import lets_way, way_paper
from oracles import arrow_set, marks_in, some_lots, some_tables, ways
from values import ANY, LOST, STEPS, TABLES, TURNS, UNLIKE, faulty, refuses, same

SOME = [*TABLES, *some_tables(36, 40, 'abcd', 6)]


class WaysTest(unittest.TestCase):
    def test_own_papers(self):
        for table in SOME:
            for lot in some_lots(marks_in(table))[-4:]:
                for one, other in itertools.product(lot, repeat=2):
                    for steps in (0, 1, 2, 3, 5, 60):
                        paper = way_paper(table, lot, one, other, steps)
                        there = way_of(table, lot, one, other, steps) is not None
                        same(self, paper[0], 'way' if there else 'none')
                        self.assertIs(type(paper[1]), str if there else tuple)
                        same(self, lets_way(table, lot, one, other, steps, paper), there)

    def test_all_ways(self):
        for table in SOME[:20]:
            lot = marks_in(table)
            for one in lot:
                for steps in range(4):
                    found = ways(table, lot, one, steps)
                    for signs in itertools.product(lot, repeat=steps + 1):
                        way = ''.join(signs)
                        if way in found:
                            same(self, lets_way(table, lot, one, way[-1], steps, ('way', way)), True)
                        else:
                            self.assertRaises(InvalidPaper, lets_way, table, lot, one, way[-1], steps, ('way', way))

    def test_ends_and_more(self):
        for table in SOME:
            lot = marks_in(table)
            arrows = arrow_set(table, lot)
            for one, other in itertools.product(lot, repeat=2):
                for steps in (0, 1, 2, 4):
                    lots = [ends_by(table, lot, one, number) for number in range(steps + 1)]
                    there = other in lots[-1]
                    if there:
                        self.assertRaises(InvalidPaper, lets_way, table, lot, one, other, steps, ('none', tuple(lots)))
                    else:
                        same(self, lets_way(table, lot, one, other, steps, ('none', tuple(lots))), False)
                        more = [''.join(set(lot) - {other}) for _ in range(steps + 1)]
                        more = [''.join(sorted(signs)) for signs in more]
                        if one != other and not any(arrow[1] == other and arrow[0] != other for arrow in arrows):
                            same(self, lets_way(table, lot, one, other, steps, ('none', tuple(more))), False)

    def test_other_papers(self):
        same(self, lets_way(STEPS, 'abcd', 'd', 'd', 3, ('way', 'dccd')), True)
        same(self, lets_way(STEPS, 'abcd', 'a', 'c', 2, ('none', ('ab', 'ab', 'ab'))), False)
        same(self, lets_way(LOST, 'abc', 'c', 'a', 60, ('none', ('c',) + ('',) * 60)), False)
        same(self, lets_way(LOST, 'abc', 'c', 'a', 3, ('none', ('c', 'c', '', 'bc'))), False)
        same(self, lets_way(table=TURNS, lot='ab', one='a', other='b', steps=0, thing=('none', ('a',))), False)
        same(self, lets_way(TURNS, 'ab', 'a', 'a', 0, ('way', 'a')), True)

    def test_no_form(self):
        for thing in (None, 'way', ('way',), ('way', 'aba', 1), ['way', 'aba'], ('way', ('a', 'b', 'a')), ('way', None),
                      ('none', 'aba'), ('none', ['a', 'b', 'a']), ('none', None), ('ways', 'aba'), (True, 'aba'),
                      (['way'], 'aba'), ('aba', 'way'), ('', ()), ()):
            with self.subTest(thing=thing):
                faulty(self, 'shape', -1, lets_way, TURNS, 'ab', 'a', 'a', 2, thing)

    def test_faults_of_ways(self):
        for word, at, way in (
                ('many', -1, ''), ('many', -1, 'x'), ('many', -1, 'dcab'), ('sign', 0, 'ccc'), ('sign', 0, 'xyz'),
                ('sign', 1, 'ddc'), ('sign', 1, 'dac'), ('sign', 1, 'd\nc'), ('sign', 2, 'dcb'), ('sign', 2, 'dcc'),
                ('sign', 2, 'dcd'), ('sign', 2, 'dcz'), ('sign', 1, 'd?a')):
            with self.subTest(way=way):
                faulty(self, word, at, lets_way, STEPS, 'abcd', 'd', 'a', 2, ('way', way))
        faulty(self, 'sign', 0, lets_way, TURNS, 'ab', 'a', 'b', 0, ('way', 'a'))
        faulty(self, 'sign', 0, lets_way, TURNS, 'ab', 'a', 'b', 0, ('way', 'b'))
        faulty(self, 'sign', 1, lets_way, STEPS, 'abd', 'd', 'b', 2, ('way', 'dab'))
        faulty(self, 'many', -1, lets_way, TURNS, 'ab', 'a', 'b', 10 ** 29, ('way', 'ab'))

    def test_faults_of_none(self):
        for word, at, lots in (
                ('many', -1, ()), ('many', -1, ('a', 'b')), ('many', -1, ('a', 'b', 'a', 'b')), ('many', -1, (7,)),
                ('lot', 0, ('b', 'b', None)), ('lot', 0, ('', 'b', 'a')), ('lot', 0, (None, 'b', 'a')),
                ('lot', 0, ('ba', 'ab', 'ab')), ('lot', 0, ('ae', 'b', 'a')), ('lot', 0, (('a',), 'b', 'a')),
                ('lot', 1, ('a', 'a', 7)), ('lot', 1, ('a', '', '')), ('lot', 1, ('ac', 'ab', 'b')),
                ('lot', 1, ('a', ['b'], 'a')), ('lot', 1, ('a', 'bb', 'a')), ('lot', 2, ('a', 'b', 'b')),
                ('lot', 2, ('a', 'b', '')), ('lot', 2, ('a', 'ab', 'a')), ('lot', 2, ('a', 'b', True)),
                ('other', -1, ('a', 'bd', 'ac')), ('other', -1, ('a', 'b', 'abcd')), ('other', -1, ('abcd',) * 3)):
            with self.subTest(lots=lots):
                faulty(self, word, at, lets_way, STEPS, 'abcd', 'a', 'c', 2, ('none', lots))
        faulty(self, 'other', -1, lets_way, TURNS, 'ab', 'a', 'a', 2, ('none', ('a', 'b', 'a')))
        faulty(self, 'lot', 0, lets_way, STEPS, 'abd', 'a', 'd', 0, ('none', ('ac',)))

    def test_any_value(self):
        for thing in ANY:
            for paper in (thing, ('way', thing), ('none', thing), (thing, 'aba'), (thing, ('a', 'b', 'a')),
                          ('none', (thing, 'b', 'a')), ('none', ('a', thing, 'a')), ('none', ('a', 'b', thing))):
                with self.subTest(paper=repr(paper)[:80]):
                    kept = repr(paper)
                    if paper == ('way', 'aba'):
                        same(self, lets_way(TURNS, 'ab', 'a', 'a', 2, paper), True)
                    else:
                        self.assertRaises(InvalidPaper, lets_way, TURNS, 'ab', 'a', 'a', 2, paper)
                    self.assertEqual(repr(paper), kept)

    def test_wrong_values(self):
        for function, rest in ((way_paper, ()), (lets_way, (None,))):
            refuses(self, 'one', function, UNLIKE, 'ab', 'c', 'a', -1, *rest)
            refuses(self, 'other', function, UNLIKE, 'ab', 'a', 'c', -1, *rest)
            refuses(self, 'steps', function, UNLIKE, 'ab', 'a', 'b', -1, *rest)
            refuses(self, 'steps', function, UNLIKE, 'ab', 'a', 'b', True, *rest)


if __name__ == "__main__":
    unittest.main()
