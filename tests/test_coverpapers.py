"""Papers on covers and crossings ([101])."""

import random
import unittest

from markladder.coverchecker import lets_cover
from markladder.coverchoices import cover_numbers
from markladder.coverpapers import cover_paper
from markladder.covers import least_cover
from markladder.crossings import crossing
from markladder.fewest import numbers_enough
from closures import BY_OUTER, LIMITED, UNCLEAR, closed_at, covers, inner_at, needs_of, outer_at
from machines import GAP, MIX, NONE, RAFT, holds
from values import (ANY, EVEN, TWINS, changed, faulty, first_fault, is_int, outcome, ref_machine, ref_set, ref_surrounding,
                    ref_tree, refuses, same)

CHANCE = random.Random(210)
SOME = LIMITED + [RAFT, MIX]


def kinds_of(machine):
    return ('inner', 'outer')[:3 - machine[0]]


def faults(machine, thing):
    """What is wrong with any value as a paper, in the order of [101]."""
    if not (type(thing) is tuple and len(thing) == 2 and type(thing[0]) is str and thing[0] in ('inner', 'outer')
            and type(thing[1]) is tuple):
        yield 'shape', -1
        return
    kind, rows = thing
    if kind == 'outer' and machine[0] == 2:
        yield 'kind', -1
    if len(rows) != len(machine[1]):
        yield 'many', -1
        return
    for k, (label, row) in enumerate(zip(machine[1], rows)):
        if not (type(row) is tuple and len(row) == 2 and type(row[0]) is tuple and type(row[1]) is tuple):
            yield 'row', k
            return
        right = inner_at(machine, label) if kind == 'inner' else outer_at(machine, label)
        is_bundle = lambda one: ref_set(one, is_int) and one in right
        if not ref_set(row[0], is_bundle):
            yield 'bundles', k
            return
        if not covers(row[0], needs_of(machine, label)):
            yield 'cover', k
        if not is_ref_crossing(machine, label, row[1]):
            yield 'crossing', k


def is_ref_crossing(machine, label, pairs):
    for pair in pairs:
        if not (type(pair) is tuple and len(pair) == 2 and ref_surrounding(machine[0], pair[0]) and ref_tree(machine[0], pair[1])
                and set((pair[0] + pair[1]).lower()) <= {*machine[1], '_'} and pair[1][0].lower() == label
                and holds(machine, pair[0].replace('_', pair[1]))):
            return False
    wholes = lambda one, other: holds(machine, one[0].replace('_', other[1]))
    return not any(wholes(one, other) and wholes(other, one)
                   for k, one in enumerate(pairs) for other in pairs[:k])


class CoverPapersTest(unittest.TestCase):
    def test_papers_are_accepted(self):
        for machine in SOME:
            numbers = cover_numbers(machine)
            for kind in kinds_of(machine):
                paper = cover_paper(machine, kind)
                same(self, type(paper), tuple)
                self.assertEqual((paper[0], list(faults(machine, paper))), (kind, []))
                told = tuple((least, len(least_cover(machine, label, kind=kind)))
                             for label, (least, _, _) in zip(machine[1], numbers))
                same(self, lets_cover(machine, paper), told)
                same(self, tuple((len(pairs), len(bundles)) for bundles, pairs in paper[1]), told)
                self.assertTrue(any(all(low <= one <= high for one, (low, high) in zip(some, told))
                                    for some in numbers_enough(machine)))
        same(self, lets_cover(machine=RAFT, thing=cover_paper(machine=RAFT, kind='outer')), ((3, 3), (3, 3)))
        same(self, lets_cover(RAFT, cover_paper(RAFT, 'inner')), ((3, 4), (3, 3)))
        same(self, lets_cover(NONE, cover_paper(NONE, 'inner')), ((0, 0), (0, 0)))
        same(self, cover_paper(NONE, 'outer'), ('outer', (((), ()), ((), ()))))

    def test_papers_by_hand(self):
        pairs = (('_', 'b'), ('A_', 'Ba'))
        same(self, lets_cover(EVEN, ('outer', ((((0,), (1,)), ()), (((0,), (1,)), pairs)))), ((0, 2), (2, 2)))
        same(self, lets_cover(GAP, ('inner', ((((0, 2), (1, 2), (2,)), (('AA_', 'AAa'),)),))), ((1, 3),))
        same(self, lets_cover(GAP, ('outer', ((((0, 1, 2), (0, 2), (1, 2)), ()),))), ((0, 3),))

    def test_more_bundles_and_fewer_pairs(self):
        for machine in SOME:
            for kind in kinds_of(machine):
                rows, told = [], []
                for label, (least, _, _) in zip(machine[1], cover_numbers(machine)):
                    bundles = inner_at(machine, label) if kind == 'inner' else outer_at(machine, label)
                    size = CHANCE.randint(0, least)
                    pairs = list(crossing(machine, label, size))
                    CHANCE.shuffle(pairs)
                    rows.append((tuple(bundles), tuple(pairs)))
                    told.append((size, len(bundles)))
                same(self, lets_cover(machine, (kind, tuple(rows))), tuple(told))

    def test_changed_papers(self):
        seen = {}
        pool = ['inner', 'outer', (), (0,), (1,), (0, 1), (0, 2), (1, 2), 0, 1, 2, True, '_', 'A_', 'B_', 'AA_', 'a', 'b', 'Aa', 'Ba', 'AAa',
                'c', 'C_', None, [], 'A', ('_', 'a'), ('A_', 'Aa'), ((0,), (1,))]
        busy = [machine for machine in SOME if sum(len(closed_at(machine, label)) for label in machine[1]) > 1]
        for machine in busy:
            for kind in kinds_of(machine):
                for _ in range(18):
                    paper = cover_paper(machine, kind)
                    for _ in range(CHANCE.choice((1, 1, 1, 2, 3))):
                        paper = changed(CHANCE, paper, pool)
                    told = first_fault(faults(machine, paper))
                    found = outcome(lets_cover, machine, paper)
                    if told is None:
                        self.assertNotIn('InvalidPaper', found, paper)
                    else:
                        self.assertEqual(found, told, (machine, paper))
                    seen[told] = seen.get(told, 0) + 1
        words = {told.split("'")[3] for told in seen if told}
        self.assertEqual(words, {'shape', 'many', 'row', 'bundles', 'cover', 'crossing'} | words & {'kind'})
        self.assertTrue(min(seen.values()) > 0 and seen[None] > 50)

    def test_each_entry(self):
        whole, pairs = ((0,), (1,)), (('_', 'b'),)
        good = (whole, pairs[:0])
        for thing in ANY:
            faulty(self, 'shape', -1, lets_cover, EVEN, thing)
        for thing in (['inner', ()], ('inner', []), ('any', ()), ('inner', (), ()), (('inner',), ()), ('inner', None), ('inner',)):
            faulty(self, 'shape', -1, lets_cover, EVEN, thing)
        faulty(self, 'kind', -1, lets_cover, TWINS, ('outer', ()))
        faulty(self, 'kind', -1, lets_cover, TWINS, ('outer', (None, None, None)))
        faulty(self, 'many', -1, lets_cover, EVEN, ('outer', ()))
        faulty(self, 'many', -1, lets_cover, EVEN, ('inner', (good, None, good)))
        for row in (None, [whole, ()], (list(whole), ()), (whole, []), (whole,), (whole, (), ()), 'ab', (whole, None)):
            faulty(self, 'row', 0, lets_cover, EVEN, ('inner', (row, None)))
            faulty(self, 'row', 1, lets_cover, EVEN, ('inner', (good, row)))
        for bundles in (((0, 1),), ((1,), (0,)), ((0,), (0,), (1,)), ((0,), [1]), ((0,), (True,)), ((False,), (1,)), ((),), (0, 1), ((2,),)):
            faulty(self, 'bundles', 0, lets_cover, EVEN, ('inner', ((bundles, (None,)), None)))
        for bundles in ((), ((0,),), ((1,),)):
            faulty(self, 'cover', 1, lets_cover, EVEN, ('inner', (good, (bundles, (None,)))))
        for told in ((None,), (['_', 'b'],), (('_', 'a'),), (('_', 'Aa'),), (('_', 'b'), ('_', 'b')), (('C_', 'b'),)):
            faulty(self, 'crossing', 1, lets_cover, EVEN, ('inner', (good, (whole, told))))
        faulty(self, 'crossing', 0, lets_cover, EVEN, ('inner', ((whole, pairs), None)))

    def test_bundles_of_the_other_kind(self):
        # (2,) is an inner bundle of GAP and no outer one, (0, 1, 2) the other way round.
        faulty(self, 'bundles', 0, lets_cover, GAP, ('outer', ((((0, 2), (1, 2), (2,)), ()),)))
        faulty(self, 'bundles', 0, lets_cover, GAP, ('inner', ((((0, 1, 2), (0, 2), (1, 2)), ()),)))
        for machine in BY_OUTER + UNCLEAR:
            paper = cover_paper(machine, 'outer')
            turned = ('inner', paper[1])
            self.assertEqual(outcome(lets_cover, machine, turned), first_fault(faults(machine, turned)))

    def test_refused(self):
        for thing in ANY:
            if not ref_machine(thing):
                refuses(self, 'machine', cover_paper, thing, None)
                refuses(self, 'machine', lets_cover, thing, None)
            refuses(self, 'kind', cover_paper, EVEN, thing)
        refuses(self, 'kind', cover_paper, TWINS, 'outer')
        refuses(self, 'kind', cover_paper, machine=EVEN, kind='any')


if __name__ == "__main__":
    unittest.main()
