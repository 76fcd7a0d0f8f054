"""Papers on walkers ([60])."""

import itertools
import random
import unittest

from markladder.errors import InvalidPaper
from markladder.walkerpapers import lets_walker, walker_paper
from markladder.walkers import are_side_lots, below_lots, is_below_lot, side_lots
from oracles import marks_in, some_lots
from test_walkers import BOTH, SIDED_3, SOME, tops_over
from values import ANY, DIST, SIDED, TURNS, UNLIKE, changed, faulty, first_fault, outcome, refuses, same

DEAD = (('a', ('aa', ())), ('b', ('bb', ())), ('c', ('cc', ())))
# By it bb has the tops a, c; what is above ab and ac is lost.
FORKED = (2, ('abb', 'baa', 'cbb'))
FORKED_TREE = ('bb', (('a', ('ab', ())), ('c', ('bc', ()))))
FORKED_PAPER = ('none', (('a', ('aa', (('b', ('ab', ())),))), ('b', FORKED_TREE), ('c', ('cc', ()))))
TURN_CASES = (
    ('aa', (0, 'aa', (('b', (1, 'aa', (('b', (0, 'ab', ())),))),))),
    ('ab', (0, 'ab', ())),
    ('ba', (1, 'ba', ())),
    ('bb', (1, 'bb', (('a', (0, 'ba', ())),))))
SPARSE = [table for table in SOME if not below_lots(table) or not side_lots(table)]


def is_pair_list(thing, firsts):
    return (type(thing) is tuple and all(type(pair) is tuple and len(pair) == 2 for pair in thing)
            and [pair[0] for pair in thing] == list(firsts))


def below_faults(table, lot, tree, at):
    if type(tree) is not tuple or len(tree) != 2 or type(tree[1]) is not tuple:
        yield 'tree', at
    choice, branches = tree
    choices = [''.join(rest) for rest in itertools.combinations_with_replacement(sorted(lot), table[0])]
    if type(choice) is not str or choice not in choices or tops_over(table, choice) & lot:
        yield 'below', at
    if not is_pair_list(branches, sorted(tops_over(table, choice))):
        yield 'branches', at
    for top, branch in branches:
        yield from below_faults(table, lot | {top}, branch, at + (top,))


def side_faults(table, lots, tree, at):
    if type(tree) is not tuple or len(tree) != 3 or type(tree[2]) is not tuple:
        yield 'tree', at
    side, choice, branches = tree
    if type(side) is not int or not 0 <= side < table[0]:
        yield 'side', at
    choices = [''.join(marks) for marks in itertools.product(*lots)]
    if type(choice) is not str or choice not in choices or tops_over(table, choice) & lots[side]:
        yield 'below', at
    if not is_pair_list(branches, sorted(tops_over(table, choice))):
        yield 'branches', at
    for top, branch in branches:
        wider = [lot | {top} if index == side else lot for index, lot in enumerate(lots)]
        yield from side_faults(table, wider, branch, at + (top,))


def paper_faults(table, kind, thing):
    """The faults of a paper, in order, as the document lists them."""
    word = {'below': 'lot', 'sides': 'lots'}[kind]
    if type(thing) is not tuple or len(thing) != 2 or type(thing[0]) is not str or thing[0] not in (word, 'none'):
        yield 'shape', -1
    marks, many = marks_in(table), table[0]
    if thing[0] == 'lot':
        if not (type(thing[1]) is str and thing[1] in some_lots(marks) and is_below_lot(table, thing[1])):
            yield 'lot', -1
    elif thing[0] == 'lots':
        lots = list(itertools.product(some_lots(marks), repeat=many))
        if type(thing[1]) is not tuple or thing[1] not in lots or not are_side_lots(table, thing[1]):
            yield 'lots', -1
    elif kind == 'below':
        if not is_pair_list(thing[1], marks):
            yield 'cases', -1
        for mark, tree in thing[1]:
            yield from below_faults(table, {mark}, tree, (mark,))
    else:
        if not is_pair_list(thing[1], [''.join(choice) for choice in itertools.product(marks, repeat=many)]):
            yield 'cases', -1
        for choice, tree in thing[1]:
            yield from side_faults(table, [{mark} for mark in choice], tree, (choice,))


class OwnPapersTest(unittest.TestCase):
    def test_accepted(self):
        for table in SOME:
            for kind, found in (('below', below_lots(table)), ('sides', side_lots(table))):
                paper = walker_paper(table, kind)
                same(self, lets_walker(table, kind, paper), found != ())
                self.assertIsNone(first_fault(paper_faults(table, kind, paper)))
        same(self, lets_walker(table=DIST, kind='below', thing=walker_paper(table=DIST, kind='below')), False)

    def test_one_kind_alone(self):
        for table in SPARSE:
            if below_lots(table):
                self.assertRaises(InvalidPaper, lets_walker, table, 'below', walker_paper(DIST, 'below'))
            for lot in some_lots(marks_in(table)) if not below_lots(table) else []:
                faulty(self, 'lot', -1, lets_walker, table, 'below', ('lot', lot))


class OtherPapersTest(unittest.TestCase):
    def test_accepted(self):
        same(self, lets_walker(DIST, 'below', ('none', DEAD)), False)
        same(self, lets_walker(FORKED, 'below', FORKED_PAPER), False)
        same(self, lets_walker(TURNS, 'sides', ('none', TURN_CASES)), False)
        for lot in ('a', 'b', 'ab'):
            same(self, lets_walker(BOTH, 'below', ('lot', lot)), True)
        for lots in (('a', 'b'), ('b', 'a')):
            same(self, lets_walker(SIDED, 'sides', ('lots', lots)), True)
        same(self, lets_walker(UNLIKE, 'sides', ('lots', ('abc', 'abc'))), True)
        same(self, lets_walker(SIDED_3, 'sides', ('lots', ('a', 'b', 'a'))), True)
        # Any choice that is lost will do, also one with tops.
        longer = ('none', (('a', ('aa', (('b', ('bb', (('a', None),))),))),) + FORKED_PAPER[1][1:])
        faulty(self, 'below', ('a', 'b'), lets_walker, FORKED, 'below', longer)
        table = (2, ('abb', 'acc', 'baa', 'cbb'))
        tree_b = ('bb', (('a', ('ab', ())), ('c', ('bc', ()))))
        tree_c = ('cc', (('a', ('ac', ())),))
        tree_a = ('aa', (('b', ('ab', ())),))
        same(self, lets_walker(table, 'below', ('none', (('a', tree_a), ('b', tree_b), ('c', tree_c)))), False)
        other_b = ('bb', (('a', ('ab', ())), ('c', ('cc', (('a', ('ac', ())),)))))
        same(self, lets_walker(table, 'below', ('none', (('a', tree_a), ('b', other_b), ('c', tree_c)))), False)


class FaultsTest(unittest.TestCase):
    def test_no_form(self):
        for thing in (None, 'none', ('none',), ['none', DEAD], ('none', DEAD, 1), ('lots', 'a'), ('some', 'a'), (True, 'a'), ()):
            faulty(self, 'shape', -1, lets_walker, DIST, 'below', thing)
        for thing in (('lot', ('a', 'b')), None, 'lots', ('lots',), ['lots', ('a', 'b')]):
            faulty(self, 'shape', -1, lets_walker, SIDED, 'sides', thing)

    def test_lots(self):
        for lot in ('', 'ab', 'abc', 'z', 'ba', None, ('a',), ['a'], 0):
            faulty(self, 'lot', -1, lets_walker, DIST, 'below', ('lot', lot))
        for lots in ((), ('a',), ('a', 'a'), ('b', 'b'), ('a', ''), ('a', 'b', 'a'), ['a', 'b'], 'ab', ('a', 'z'), ('a', None),
                     ('a', ['b']), None, ('ab', 'b')):
            faulty(self, 'lots', -1, lets_walker, SIDED, 'sides', ('lots', lots))

    def test_cases(self):
        for cases in (None, (), [DEAD], DEAD[:2], DEAD + DEAD[2:], DEAD[::-1], (DEAD[0], ['b', ('bb', ())], DEAD[2]),
                      (DEAD[0], DEAD[0], DEAD[2]), (DEAD[0], ('b',), DEAD[2]), (DEAD[0], ('b', ('bb', ()), 1), DEAD[2]),
                      (DEAD[0], ('z', ('bb', ())), DEAD[2]), (DEAD[0], (None, ('bb', ())), DEAD[2]), 'abc', list(DEAD)):
            faulty(self, 'cases', -1, lets_walker, DIST, 'below', ('none', cases))
        for cases in (None, (), TURN_CASES[:3], TURN_CASES[::-1], DEAD, TURN_CASES[:1] + TURN_CASES[2:], list(TURN_CASES)):
            faulty(self, 'cases', -1, lets_walker, TURNS, 'sides', ('none', cases))
        # Any values are trees as far as the cases go.
        faulty(self, 'tree', ('a',), lets_walker, DIST, 'below', ('none', (('a', None), ('b', None), ('c', None))))

    def below_fault(self, word, at, tree, *others):
        cases = (FORKED_PAPER[1][0], ('b', tree), ('c', others[0] if others else FORKED_PAPER[1][2][1]))
        with self.subTest(tree=tree):
            faulty(self, word, at, lets_walker, FORKED, 'below', ('none', cases))

    def test_trees_for_below(self):
        for tree in (None, (), ('bb',), ('bb', [FORKED_TREE[1]]), ['bb', FORKED_TREE[1]], ('bb', FORKED_TREE[1], 1), ('bb', None), 'bb',
                     ('bb', 'ac'), (None, None)):
            self.below_fault('tree', ('b',), tree)
            self.below_fault('tree', ('b', 'a'), ('bb', (('a', tree), ('c', ('bc', ())))))
            self.below_fault('tree', ('b', 'c'), ('bb', (('a', ('ab', ())), ('c', tree))), None)
        for choice in ('b', 'bbb', 'ab', 'aa', 'cc', '', None, ('b', 'b'), ['bb'], 'bz', True):
            self.below_fault('below', ('b',), (choice, ()), None)
        for choice in ('ba', 'bb', 'aa', 'cc', 'ac', 'abb'):
            self.below_fault('below', ('b', 'a'), ('bb', (('a', (choice, ())), ('c', None))))
        for branches in ((), (('a', ('ab', ())),), FORKED_TREE[1][::-1], FORKED_TREE[1] + (('c', ('bc', ())),), (('a', 0), ['c', 0]),
                         (('a', 0), ('b', 0)), (('a', 0), ('c',)), (('a', 0), ('c', 0, 0)), ('a', 'c'), (('a', 0), (None, 0))):
            self.below_fault('branches', ('b',), ('bb', branches), None)
        self.below_fault('branches', ('b', 'a'), ('bb', (('a', ('ab', (('a', 0),))), ('c', None))))
        faulty(self, 'below', ('a',), lets_walker, FORKED, 'below', ('none', (('a', ('bb', ())), ('b', None), ('c', None))))
        # A choice over which a mark of the lot stands is none, one of more marks neither.
        faulty(self, 'below', ('a',), lets_walker, BOTH, 'below', ('none', (('a', ('aa', ())), ('b', ('bb', ())))))
        # By the first branch all in it is judged before the second one.
        self.below_fault('branches', ('b', 'a'), ('bb', (('a', ('ab', (1,))), ('c', None))))

    def sides_fault(self, word, at, tree, last=TURN_CASES[3][1]):
        with self.subTest(tree=tree):
            cases = (('aa', tree),) + TURN_CASES[1:3] + (('bb', last),)
            faulty(self, word, at, lets_walker, TURNS, 'sides', ('none', cases))

    def test_trees_for_sides(self):
        inner = (1, 'aa', (('b', (0, 'ab', ())),))
        for tree in (None, (), (0, 'aa'), (0, 'aa', [('b', inner)]), [0, 'aa', ()], (0, 'aa', (), ()), ('aa', ()), (0, 'aa', None)):
            self.sides_fault('tree', ('aa',), tree, None)
            self.sides_fault('tree', ('aa', 'b'), (0, 'aa', (('b', tree),)), None)
            self.sides_fault('tree', ('bb', 'a'), TURN_CASES[0][1], (1, 'bb', (('a', tree),)))
        for side in (2, -1, True, None, '0', (0,), 10 ** 20):
            self.sides_fault('side', ('aa',), (side, None, ()), None)
            self.sides_fault('side', ('aa', 'b'), (0, 'aa', (('b', (side, 'aa', ())),)))
        for choice in (None, 'a', 'aaa', 'ab', 'ba', 'bb', '', ('a', 'a'), 'az', True):
            self.sides_fault('below', ('aa',), (0, choice, (None,)), None)
        # With b on side 0 it stands over aa there, but not yet on side 1.
        self.sides_fault('below', ('aa', 'b'), (0, 'aa', (('b', (0, 'aa', ())),)))
        for branches in ((), (('a', inner),), (('b', inner), ('b', inner)), (['b', inner],), (('b',),), ('b',), (('b', inner, 0),)):
            self.sides_fault('branches', ('aa',), (0, 'aa', branches), None)
        self.sides_fault('branches', ('aa', 'b'), (0, 'aa', (('b', (1, 'aa', ())),)), None)
        self.sides_fault('branches', ('bb',), TURN_CASES[0][1], (0, 'bb', ()))

    def test_orders_of_choices(self):
        # The marks of a choice stand below in any order: ba is lost for c, c as ab is.
        table = (2, ('abb', 'baa', 'cab'))
        cases = dict(walker_paper(table, 'sides')[1])
        for choice in ('ab', 'ba'):
            tree = (0, choice, (('c', (0, 'c' + choice[1], ())),))
            paper = ('none', tuple((case, tree if case == choice else cases[case]) for case in sorted(cases)))
            same(self, lets_walker(table, 'sides', paper), False)
            twisted = (0, choice[::-1], (('c', None),))
            paper = ('none', tuple((case, twisted if case == choice else cases[case]) for case in sorted(cases)))
            faulty(self, 'below', (choice,), lets_walker, table, 'sides', paper)

    def test_changed_papers(self):
        chance = random.Random(73)
        pool = [None, True, 0, 1, 2, -1, '', 'a', 'b', 'c', 'aa', 'ab', 'ba', 'bb', 'bc', 'abc', (), ('a',), ('a', 'b'), ['a'],
                'lot', 'lots', 'none', ('aa', ()), (0, 'ab', ()), (1, 'ba', ()), (('a', ('aa', ())),)]
        words = set()
        for table in SPARSE:
            for kind in ('below', 'sides'):
                paper = walker_paper(table, kind)
                for _ in range(30):
                    thing = changed(chance, paper, pool)
                    if chance.random() < 0.3:
                        thing = changed(chance, thing, pool)
                    fault = first_fault(paper_faults(table, kind, thing))
                    self.assertEqual(outcome(lets_walker, table, kind, thing), fault or repr(thing[0] != 'none'))
                    words.add(fault and fault[:35])
        self.assertTrue(len(words) >= 8)

    def test_any_value(self):
        for thing in ANY:
            for paper in (thing, ('lot', thing), ('none', thing), (thing, DEAD), ('none', (('a', thing),) + DEAD[1:]),
                          ('none', ((thing, ('aa', ())),) + DEAD[1:]), ('none', (('a', (thing, ())),) + DEAD[1:]),
                          ('none', (('a', ('aa', thing)),) + DEAD[1:]), ('none', DEAD[:2] + (thing,))):
                kept = repr(paper)
                fault = first_fault(paper_faults(DIST, 'below', paper))
                self.assertEqual(outcome(lets_walker, DIST, 'below', paper), fault or repr(paper[0] != 'none'))
                self.assertEqual(repr(paper), kept)
            for paper in (thing, ('lots', thing), ('lots', (thing, 'a')), ('none', (('aa', thing),) + TURN_CASES[1:]),
                          ('none', (('aa', (thing, 'aa', ())),) + TURN_CASES[1:]), ('none', ((thing, ()),) + TURN_CASES[1:]),
                          ('none', (('aa', (0, thing, ())),) + TURN_CASES[1:]), ('none', (('aa', (0, 'aa', thing)),) + TURN_CASES[1:])):
                fault = first_fault(paper_faults(TURNS, 'sides', paper))
                self.assertEqual(outcome(lets_walker, TURNS, 'sides', paper), fault or repr(paper[0] != 'none'))

    def test_refused(self):
        for kind in ('', 'lot', 'alike', None, True, ['below'], ('below',), 'Below'):
            refuses(self, 'kind', walker_paper, DIST, kind)
            refuses(self, 'kind', lets_walker, DIST, kind, None)
        refuses(self, 'table', lets_walker, None, None, None)


if __name__ == "__main__":
    unittest.main()
