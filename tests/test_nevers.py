"""Papers on whether some shape cannot be marked right ([37], [38])."""

import unittest

from markladder.errors import InvalidPaper
from markladder.fulls import falling, lasting
from markladder.nevers import lets_never, never_paper
from oracles import inside, marks_in, some_lots, some_tables
from values import ANY, LOST, STEPS, TABLES, UNLIKE, faulty, same

DOOMED = (2, ('abb', 'bcc', 'cdd'))


class NeverPaperTest(unittest.TestCase):
    def test_own_papers(self):
        for table in [*TABLES, DOOMED, *some_tables(28, 150, 'abcde', 8)]:
            never = lasting(table, marks_in(table)) == ''
            kind, told = paper = never_paper(table)
            self.assertIs(type(told), tuple)
            same(self, lets_never(table, paper), never)
            same(self, kind, 'never' if never else 'ever')
            if never:
                same(self, told, falling(table, marks_in(table)))
        same(self, lets_never(table=LOST, thing=never_paper(table=LOST)), True)

    def test_other_papers(self):
        for told in (('abb', 'baa'), ('acc', 'caa'), ('abc', 'bac', 'cab'), UNLIKE[1], ('abb', 'acc', 'baa', 'caa')):
            same(self, lets_never(UNLIKE, ('ever', told)), False)
        same(self, lets_never(STEPS, ('ever', ('cdd', 'dcc'))), False)
        same(self, lets_never(STEPS, ('ever', STEPS[1])), False)
        same(self, lets_never(DOOMED, ('never', ('abcd', 'abc', 'ab', 'a', ''))), True)

    def test_all_choices_of_rows(self):
        for table in some_tables(29, 25, 'abc', 5):
            for bits in range(1, 2 ** len(table[1])):
                rows = tuple(row for index, row in enumerate(table[1]) if bits >> index & 1)
                tops = {row[0] for row in rows}
                bad = [index for index, row in enumerate(rows) if not set(row[1:]) <= tops]
                if bad:
                    faulty(self, 'below', bad[0], lets_never, table, ('ever', rows))
                else:
                    same(self, lets_never(table, ('ever', rows)), False)

    def test_no_form(self):
        for thing in (None, 'never', ('never',), ('never', ('abc',), 1), ['never', ()], ('never', ['abc']), ('never', 'abc'),
                      ('ever', ['abb']), ('ever', 'abb'), ('ever', None), ('some', ()), (True, ()), (['ever'], ('abb',)),
                      ('Never', ('abc',)), ((), ()), ('', ('abb',))):
            with self.subTest(thing=thing):
                faulty(self, 'shape', -1, lets_never, LOST, thing)

    def test_faults_of_never(self):
        for word, at, lots in (
                ('lot', 0, ('ab', 'x')), ('lot', 0, ('',)), ('lot', 0, (None, 'ab', 'b', '')), ('lot', 0, (['abc'],)),
                ('lot', 1, ('abc', 'a', '7')), ('lot', 1, ('abc', 'abc', 'ab', 'b', '')), ('lot', 1, ('abc', '')),
                ('lot', 2, ('abc', 'ab', '')), ('lot', 2, ('abc', 'ab', True)), ('lot', 3, ('abc', 'ab', 'b', 'b')),
                ('lot', 4, ('abc', 'ab', 'b', '', '')), ('lot', 4, ('abc', 'ab', 'b', '', 'x', 'y')),
                ('end', -1, ()), ('end', -1, ('abc',)), ('end', -1, ('abc', 'ab')), ('end', -1, ('abc', 'ab', 'b'))):
            with self.subTest(lots=lots):
                faulty(self, word, at, lets_never, LOST, ('never', lots))
        faulty(self, 'end', -1, lets_never, UNLIKE, ('never', ('abc',)))
        faulty(self, 'lot', 1, lets_never, UNLIKE, ('never', ('abc', '')))
        faulty(self, 'lot', 1, lets_never, UNLIKE, ('never', ('abc', 'abc')))

    def test_faults_of_ever(self):
        for word, at, rows in (
                ('none', -1, ()), ('row', 0, ('aaa', 7)), ('row', 0, (None, 'abb')), ('row', 0, ('bba', 'baa')),
                ('row', 0, ((),)), ('row', 1, ('abb', 'abb')), ('row', 1, ('baa', 'abb')), ('row', 1, ('bac', 'bbb')),
                ('row', 1, ('abb', ['baa'])), ('row', 2, ('abb', 'baa', 'bba', None)),
                ('below', 0, ('abb',)), ('below', 0, ('abc', 'bac')), ('below', 1, ('abb', 'bac')),
                ('below', 1, ('abb', 'bcc')), ('below', 2, ('abb', 'baa', 'bac'))):
            with self.subTest(rows=rows):
                faulty(self, word, at, lets_never, UNLIKE, ('ever', rows))
        faulty(self, 'row', 1, lets_never, UNLIKE, ('ever', ('abc', 'x')))

    def test_any_value(self):
        for table in (LOST, UNLIKE):
            for thing in ANY:
                for paper in (thing, ('never', thing), ('ever', thing), (thing, ()), ('never', (thing,)), ('ever', (thing,)),
                              ('never', ('abc', thing)), ('ever', ('abb', thing))):
                    if paper != ('ever', ('abb', 'baa')) or table == LOST:
                        with self.subTest(paper=repr(paper)[:80]):
                            kept = repr(paper)
                            self.assertRaises(InvalidPaper, lets_never, table, paper)
                            self.assertEqual(repr(paper), kept)

    def test_one_kind_alone(self):
        for table in some_tables(30, 40, 'abc', 5):
            never = lets_never(table, never_paper(table))
            lots = falling(table, marks_in(table))
            if not never:
                self.assertRaises(InvalidPaper, lets_never, table, ('never', lots))
            for lot in some_lots('abc'):
                rows = tuple(inside(table, lot))
                if never:
                    self.assertRaises(InvalidPaper, lets_never, table, ('ever', rows))


if __name__ == "__main__":
    unittest.main()
