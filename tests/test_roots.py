"""Papers on roots ([51] to [53])."""

import random
import unittest

from markladder.errors import InvalidPaper
from markladder.goodrows import good_rows, root_of
from markladder.hardladders import ladder
from markladder.roots import lets_root, root_paper
from oracles import marks_in, some_tables
from values import ANY, LONG, LOST, STEPS, TABLES, TURNS, UNLIKE, faulty, refuses, same

ROW = ('abcd', 'cd', 'cd')
KEPT_AB = ('kept', 'ab', 2, (0, 1))
KEPT_CD = ('kept', 'cd', 2, (0, 1))
INNER = ('loose', 'cd', (KEPT_CD,))
LONG_ROW = ('abcdef', 'ef', 'ef')
LONG_TREE = (('loose', 'ef', (('kept', 'ef', 2, (0, 1)),)), INNER, KEPT_AB)
HIGH = ladder(2, 3)
HIGH_INNER = ('loose', 'ef', (('kept', 'ef', 2, (0, 1)),))
# The loose part cdef leads to a and b; what lasts in it has the loose part ef.
HIGH_TREE = (('loose', 'cdef', (('loose', 'ef', (('kept', 'ef', 2, (1, 0)),)), KEPT_CD)), KEPT_AB)


def sparse_tables(seed, number):
    """Tables of few rows for each mark, by which many marks are in no part."""
    chance = random.Random(seed)
    tables = []
    for _ in range(number):
        marks = 'abcdef'[:chance.randint(2, 6)]
        rows = {'abb', 'baa'}
        for mark in marks[2:]:
            rows |= {mark + ''.join(sorted(chance.choice(marks) for _ in range(2))) for _ in range(chance.randint(1, 2))}
        tables.append((2, tuple(sorted(rows))))
    return tables


class OwnPapersTest(unittest.TestCase):
    def test_accepted(self):
        tables = [*TABLES, *[ladder(many, k) for many in (2, 3) for k in (1, 2, 3, 4)]]
        tables = tables + some_tables(39, 200, 'abc', 6) + some_tables(40, 200, 'abcdefgh', 14)
        for table in tables:
            root, paper = root_of(table), root_paper(table)
            same(self, lets_root(table, paper), root)
            same(self, paper[0], {0: 'never', None: 'ever'}.get(root, 'root'))
            if root == 0:
                same(self, len(paper), 2)
            else:
                self.assertTrue(paper[1][:1] == good_rows(table)[0][:1])
        same(self, lets_root(table=STEPS, thing=root_paper(table=STEPS)), 2)

    def test_tables_with_a_root_above_0(self):
        for table in sparse_tables(43, 400):
            root, paper = root_of(table), root_paper(table)
            same(self, lets_root(table, paper), root)
            if root not in (0, None):
                kind, row, tree = paper
                same(self, (kind, len(row)), ('root', 2 * root - 1))
                same(self, sorted(''.join(piece[1] for piece in tree)), list(row[0]))

    def test_single_marks(self):
        single = (2, ('abb', 'baa', 'cad', 'dab', 'ebc'))
        same(self, root_of(single), 1)
        same(self, lets_root(single, root_paper(single)), 1)
        led = (2, ('abb', 'baa', 'cac', 'cdd', 'dcc', 'ecf', 'fac'))
        same(self, root_of(led), 2)
        same(self, lets_root(led, root_paper(led)), 2)

    def test_longest_row(self):
        # The first good row in order is not the longest one.
        forked = (2, ('abb', 'baa', 'cac', 'cdd', 'dcc', 'eag', 'eff', 'fee', 'geg', 'ghh', 'hgg'))
        same(self, root_paper(forked)[1], ('abcdefgh', 'efgh', 'efgh', 'gh', 'gh'))
        same(self, lets_root(forked, root_paper(forked)), 3)

    def test_one_form_alone(self):
        for table in some_tables(41, 60, 'abcd', 7):
            root, paper = root_of(table), root_paper(table)
            for row in good_rows(table):
                if root is not None:
                    self.assertRaises(InvalidPaper, lets_root, table, ('ever', row))
                else:
                    self.assertRaises(InvalidPaper, lets_root, table, ('root', row, ()))
            if root != 0:
                self.assertRaises(InvalidPaper, lets_root, table, ('never', (marks_in(table), '')))
            self.assertRaises(InvalidPaper, lets_root, table, paper[1])


class OtherPapersTest(unittest.TestCase):
    def test_accepted(self):
        for row in (('abc', 'abc', 'abc'), ('abc',), ('abc',) * 9):
            same(self, lets_root(UNLIKE, ('ever', row)), None)
        same(self, lets_root(STEPS, ('root', ROW, (INNER, KEPT_AB))), 2)
        same(self, lets_root(STEPS, ('root', ROW, (('loose', 'cd', (('kept', 'cd', 2, (1, 0)),)), KEPT_AB))), 2)
        same(self, lets_root(LONG, ('root', LONG_ROW, LONG_TREE)), 2)
        same(self, lets_root(LONG, ('root', ('abcdef', 'cd', 'cd'), LONG_TREE)), 2)
        same(self, lets_root(TURNS, ('root', ('ab',), (KEPT_AB,))), 1)
        same(self, lets_root(HIGH, root_paper(HIGH)), 3)

    def test_wider_pieces(self):
        # One loose piece of two parts, which lead nowhere else.
        piece = ('loose', 'cdef', (HIGH_INNER, INNER))
        faulty(self, 'root', -1, lets_root, LONG, ('root', LONG_ROW, (piece, KEPT_AB)))
        piece = ('loose', 'abcdef', (HIGH_INNER, INNER, KEPT_AB))
        faulty(self, 'root', -1, lets_root, LONG, ('root', LONG_ROW, (piece,)))
        # A kept piece of two parts, of single marks, of a greater period.
        four = (2, ('abb', 'baa', 'cdd', 'dcc'))
        same(self, lets_root(four, ('root', ('abcd',), (('kept', 'abcd', 2, (0, 1, 1, 0)),))), 1)
        single = (2, ('abb', 'baa', 'cab'))
        faulty(self, 'period', (0,), lets_root, single, ('root', ('abc',), (('kept', 'abc', 2, (0, 1, 0)),)))
        same(self, lets_root(single, ('root', ('abc',), (('kept', 'c', 9, (8,)), KEPT_AB))), 1)
        same(self, lets_root(single, ('root', ('abc',), (('loose', 'c', ()), KEPT_AB))), 1)
        circle = (2, ('abb', 'bcc', 'cdd', 'daa'))
        for period, numbers in ((4, (0, 1, 2, 3)), (4, (2, 3, 0, 1)), (2, (1, 0, 1, 0))):
            same(self, lets_root(circle, ('root', ('abcd',), (('kept', 'abcd', period, numbers),))), 1)
        for period, numbers in ((3, (0, 1, 2, 0)), (8, (0, 1, 2, 3)), (10 ** 59, (0, 1, 2, 3)), (4, (3, 2, 1, 0))):
            faulty(self, 'period', (0,), lets_root, circle, ('root', ('abcd',), (('kept', 'abcd', period, numbers),)))

    def test_pieces_in_which_nothing_lasts(self):
        lost = (2, ('abb', 'baa', 'cad', 'dbc'))
        same(self, root_of(lost), 1)
        empty = ('loose', 'cd', ())
        same(self, lets_root(lost, ('root', ('abcd',), (empty, KEPT_AB))), 1)
        same(self, lets_root(lost, ('root', ('abcd',), (KEPT_CD, KEPT_AB))), 1)
        faulty(self, 'parts', (0,), lets_root, lost, ('root', ('abcd',), (('loose', 'cd', (KEPT_CD,)), KEPT_AB)))
        faulty(self, 'tree', (0,), lets_root, lost, ('root', ('abcd',), (('loose', 'cd', None), KEPT_AB)))

    def test_deep_trees(self):
        tree, row = (KEPT_CD,), ROW
        for _ in range(12):
            tree = (('loose', 'cd', tree),)
        faulty(self, 'root', -1, lets_root, STEPS, ('root', row, (*tree, KEPT_AB)))
        bad = (('kept', 'cd', 2, (0, 0)),)
        for _ in range(12):
            bad = (('loose', 'cd', bad),)
        faulty(self, 'period', (0,) * 13, lets_root, STEPS, ('root', row, (*bad, KEPT_AB)))


class FaultsTest(unittest.TestCase):
    def test_no_form(self):
        for thing in (None, 'never', ('never',), ('never', ('abc',), ()), ('ever',), ('ever', ROW, ()), ('root', ROW),
                      ('root', ROW, (INNER, KEPT_AB), 2), ['root', ROW, (INNER, KEPT_AB)], ('some', ROW), (True, ROW), (),
                      (['ever'], ROW), ('', ROW, ())):
            with self.subTest(thing=thing):
                faulty(self, 'shape', -1, lets_root, STEPS, thing)

    def test_never(self):
        same(self, lets_root(LOST, ('never', ('abc', 'ab', 'b', ''))), 0)
        for lots in ((), ('abc',), ('abc', 'ab', 'b'), ('abc', 'ab', 'b', 'b'), ('abc', 'b', ''), ('ab', 'b', ''), None,
                     ['abc', 'ab', 'b', ''], 'abc', ('abc', 'ab', 'b', '', ''), ('abc', 'ab', 'b', None), 7,
                     ('abc', 'ab', ['b'], '')):
            with self.subTest(lots=lots):
                faulty(self, 'lots', -1, lets_root, LOST, ('never', lots))
        faulty(self, 'lasts', -1, lets_root, UNLIKE, ('never', ('abc',)))
        faulty(self, 'lots', -1, lets_root, UNLIKE, ('never', ('abc', '')))
        faulty(self, 'lasts', -1, lets_root, (2, ('aaa', 'abc', 'baa')), ('never', ('abc', 'ab')))

    def test_rows_and_ends(self):
        for row in ((), ('abcd', 'cd'), ('cd',), ('abcd', 'ab', 'ab'), None, ['abcd'], 'abcd', ('abcd', 'cd', 'cd', 'cd', 'cd')):
            faulty(self, 'row', -1, lets_root, STEPS, ('ever', row))
            faulty(self, 'row', -1, lets_root, STEPS, ('root', row, None))
        faulty(self, 'ends', -1, lets_root, STEPS, ('ever', ROW))
        faulty(self, 'ends', -1, lets_root, TURNS, ('ever', ('ab',)))
        faulty(self, 'row', -1, lets_root, LOST, ('ever', ('abc',)))

    def root_fault(self, word, at, tree, row=ROW, table=STEPS):
        with self.subTest(tree=tree):
            faulty(self, word, at, lets_root, table, ('root', row, tree))

    def test_trees(self):
        for tree in (None, [INNER, KEPT_AB], 'ab', 7):
            self.root_fault('tree', (), tree)
        for at, inner in (((0,), None), ((0,), [KEPT_CD]), ((0,), 'cd')):
            self.root_fault('tree', at, (('loose', 'cd', inner), KEPT_AB))
        self.root_fault('tree', (1,), (KEPT_AB, ('loose', 'cd', 7)), ('abcd',), (2, ('abb', 'baa', 'cdd', 'dcc')))

    def test_pieces(self):
        for piece in (None, (), 'kept', ('kept',), ['loose', 'cd', (KEPT_CD,)], ('loose', 'cd'), ('loose', '', ()),
                      ('loose', 'dc', ()), ('loose', ('c', 'd'), ()), ('loose', None, ()), ('loose', 'cd', (), ()),
                      ('kept', 'cd', 2), ('kept', 'cd', 2, (0, 1), 0), ('kept', '', 2, ()), ('kept', 'dc', 2, (0, 1)),
                      ('kept', 'cd', 1, (0, 0)), ('kept', 'cd', True, (0, 0)), ('kept', 'cd', '2', (0, 1)),
                      ('kept', 'cd', 2, [0, 1]), ('kept', 'cd', 2, (0,)), ('kept', 'cd', 2, (0, 1, 0)),
                      ('kept', 'cd', 2, (0, 2)), ('kept', 'cd', 2, (0, -1)), ('kept', 'cd', 2, (False, 1)),
                      ('kept', 'cd', 2, (0, None)), ('kept', None, 2, (0, 1)), ('lost', 'cd', ()), (True, 'cd', ()),
                      ('loose', 'cd', 2, (0, 1)), ('kept', 'cd', ()), (['kept'], 'cd', 2, (0, 1))):
            self.root_fault('piece', (0,), (piece, KEPT_AB))
            self.root_fault('piece', (1,), (KEPT_AB, piece, None))
            self.root_fault('piece', (0, 0), (('loose', 'cd', (piece,)), KEPT_AB))
            self.root_fault('piece', (0, 1), (('loose', 'cd', (KEPT_CD, piece)), ('kept', 'ab', 2, (0, 0))))

    def test_parts(self):
        for tree in ((), (INNER,), (KEPT_AB,), (INNER, KEPT_AB, KEPT_AB), (INNER, INNER, KEPT_AB), (('loose', 'abcde', ()),),
                     (('loose', 'cde', (KEPT_CD,)), KEPT_AB), (('loose', 'bcd', ()), KEPT_AB), (INNER, ('kept', 'az', 2, (0, 1)))):
            self.root_fault('parts', (), tree)
        for inner in ((), (KEPT_AB,), (KEPT_CD, KEPT_CD), (('kept', 'c', 2, (0,)),), (KEPT_CD, ('kept', 'e', 2, (0,)))):
            self.root_fault('parts', (0,), (('loose', 'cd', inner), KEPT_AB))

    def test_arrows(self):
        self.root_fault('arrow', (), (KEPT_AB, INNER))
        self.root_fault('arrow', (), (('kept', 'ab', 2, (0, 0)), ('loose', 'cd', None)))
        self.root_fault('arrow', (), (('kept', 'c', 2, (0,)), ('kept', 'd', 2, (0,)), KEPT_AB))
        self.root_fault('arrow', (0,), (('loose', 'cd', (('kept', 'c', 2, (0,)), ('kept', 'd', 2, (0,)))), KEPT_AB))
        self.root_fault('arrow', (), (('loose', 'a', None), ('loose', 'b', None)), ('ab',), TURNS)

    def test_periods(self):
        self.root_fault('period', (0,), (KEPT_CD, KEPT_AB))
        self.root_fault('period', (1,), (INNER, ('kept', 'ab', 2, (0, 0))))
        self.root_fault('period', (1,), (INNER, ('kept', 'ab', 3, (0, 1))))
        self.root_fault('period', (0, 0), (('loose', 'cd', (('kept', 'cd', 2, (1, 1)),)), ('kept', 'ab', 2, (0, 0))))
        self.root_fault('period', (0,), (('kept', 'cd', 2, (0, 1)), ('kept', 'ab', 2, (0, 0))))

    def test_one_piece_after_the_other(self):
        table, row = (2, ('abb', 'baa', 'cdd', 'dcc')), ('abcd',)
        bad_ab, bad_cd = ('kept', 'ab', 2, (0, 0)), ('kept', 'cd', 2, (1, 1))
        self.root_fault('period', (0,), (bad_ab, ('loose', 'cd', None)), row, table)
        self.root_fault('tree', (0,), (('loose', 'cd', None), bad_ab), row, table)
        self.root_fault('period', (1,), (('loose', 'cd', (KEPT_CD,)), bad_ab), row, table)
        self.root_fault('period', (0, 0), (('loose', 'cd', (bad_cd,)), bad_ab), row, table)
        self.root_fault('piece', (1,), (bad_ab, None), row, table)
        self.root_fault('parts', (), (('loose', 'cd', None), ('kept', 'a', 2, (0,))), row, table)
        self.root_fault('parts', (0, 0), (('loose', 'cd', (('loose', 'cd', ()),)), bad_ab), row, table)

    def test_roots(self):
        self.root_fault('root', -1, (INNER, KEPT_AB), ('abcd',))
        self.root_fault('root', -1, (('loose', 'ab', (KEPT_AB,)),), ('ab',), TURNS)
        self.root_fault('root', -1, LONG_TREE, ('abcdef',), LONG)
        self.root_fault('root', -1, (('loose', 'abcd', (INNER, KEPT_AB)),), ROW)

    def test_deeper_faults(self):
        self.assertEqual(good_rows(HIGH), (('abcdef', 'cdef', 'cdef', 'ef', 'ef'),))
        row = good_rows(HIGH)[0]
        same(self, lets_root(HIGH, ('root', row, HIGH_TREE)), 3)
        self.root_fault('root', -1, HIGH_TREE, row[:3], HIGH)
        deep = lambda inner: (('loose', 'cdef', (('loose', 'ef', inner), KEPT_CD)), KEPT_AB)
        for word, at, inner in (('tree', (0, 0), None), ('piece', (0, 0, 0), (7,)), ('parts', (0, 0), ()),
                                ('arrow', (0, 0), (('kept', 'f', 2, (0,)), ('kept', 'e', 2, (0,)))),
                                ('period', (0, 0, 0), (('kept', 'ef', 2, (0, 0)),))):
            self.root_fault(word, at, deep(inner), row, HIGH)

    def test_any_value(self):
        for thing in ANY:
            for paper in (thing, (thing, ROW), ('never', thing), ('ever', thing), ('root', thing, (INNER, KEPT_AB)),
                          ('root', ROW, thing), ('root', ROW, (thing, KEPT_AB)), ('root', ROW, (INNER, thing)),
                          ('root', ROW, (('loose', thing, (KEPT_CD,)), KEPT_AB)), ('root', ROW, (('loose', 'cd', thing), KEPT_AB)),
                          ('root', ROW, (INNER, ('kept', 'ab', thing, (0, 1)))), ('root', ROW, (INNER, (thing, 'ab', 2, (0, 1)))),
                          ('root', ROW, (INNER, ('kept', 'ab', 2, thing))), ('root', ROW, (INNER, ('kept', 'ab', 2, (0, thing))))):
                with self.subTest(paper=repr(paper)[:80]):
                    kept = repr(paper)
                    if kept == repr(('root', ROW, (INNER, KEPT_AB))):
                        same(self, lets_root(STEPS, paper), 2)
                    elif kept == repr(('root', ROW, (INNER, ('kept', 'ab', 2, (1, 0))))):
                        same(self, lets_root(STEPS, paper), 2)
                    else:
                        self.assertRaises(InvalidPaper, lets_root, STEPS, paper)
                    self.assertEqual(repr(paper), kept)

    def test_wrong_tables(self):
        for table in (None, [2, ('abb',)], (2, ())):
            refuses(self, 'table', lets_root, table, None)
            refuses(self, 'table', root_paper, table)


class BoundTest(unittest.TestCase):
    def test_no_good_row_is_longer(self):
        """Trees of one loose piece around all are right as far as they go, but their bound is no root."""
        for table in some_tables(42, 80, 'abcd', 6):
            root, paper = root_of(table), root_paper(table)
            if root not in (0, None):
                _, row, tree = paper
                around = (('loose', row[0], tree),)
                faulty(self, 'root', -1, lets_root, table, ('root', row, around))
                for shorter in [row[:end] for end in range(1, len(row), 2)]:
                    faulty(self, 'root', -1, lets_root, table, ('root', shorter, tree))


if __name__ == "__main__":
    unittest.main()
