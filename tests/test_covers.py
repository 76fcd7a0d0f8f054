"""Needs, crossings, covers, and choices that cover ([97] to [100], [102])."""

import itertools
import random
import unittest

from markladder.coverchoices import are_covered, cover_numbers, cover_tags, is_clear
from markladder.covers import first_lack, is_cover, least_cover
from markladder.crossings import crossing, is_crossing, most_crossing
from markladder.fewest import numbers_enough
from markladder.choices import is_enough
from markladder.needs import inner_bundles, needs_at, outer_bundles
from closures import (LIMITED, OVER, TURNED_RAFT, accepts_of, beside, bundles_of, chosen, closed_at, covers,
                      greatest_of, inner_at, least_trees_at, needs_of, outer_at, serves, some_bundles, tells_by)
from machines import ALL, GAP, MIX, NONE, ONLY_A, RAFT, UNMET, holds, run, small_trees, some_tree, surroundings_up_to
from values import ANY, EVEN, TWINS, ref_machine, ref_number, ref_set, refuses, same

CHANCE = random.Random(200)
SOME = LIMITED + [RAFT, MIX, *OVER]
SPOTS = [(machine, label) for machine in SOME for label in machine[1]]
BUSY = [(machine, label) for machine, label in SPOTS if len(closed_at(machine, label)) > 1]


def ref_first_cover(machine, label, bundles):
    needs = needs_of(machine, label)
    return next(some for size in range(9) for some in itertools.combinations(bundles, size) if covers(some, needs))


def kinds_at(machine, label):
    return {'any': closed_at(machine, label), 'inner': tuple(inner_at(machine, label)), 'outer': tuple(outer_at(machine, label))}


class NeedsTest(unittest.TestCase):
    def test_needs(self):
        unlike = 0
        for machine, label in SPOTS:
            same(self, outer_bundles(machine, label), tuple(outer_at(machine, label)))
            same(self, inner_bundles(machine, label), tuple(inner_at(machine, label)))
            same(self, needs_at(machine, label), tuple(sorted(needs_of(machine, label))))
            unlike += len({outer_bundles(machine, label), inner_bundles(machine, label), closed_at(machine, label)}) == 3
        self.assertTrue(unlike > 5, unlike)
        same(self, inner_bundles(machine=RAFT, label='a'), ((0,), (0, 2), (1,), (1, 3)))
        same(self, outer_bundles(machine=GAP, label='a'), ((0, 1, 2), (0, 2), (1, 2)))
        same(self, needs_at(machine=RAFT, label='b'), (((1,), 1), ((1, 3), 1), ((1, 3), 3), ((2,), 2)))
        for function in (outer_bundles, inner_bundles, needs_at):
            same(self, [function(NONE, 'a'), function(ONLY_A, 'b')], [(), ()])
        same(self, [outer_bundles(UNMET, 'b'), inner_bundles(UNMET, 'b'), needs_at(UNMET, 'b')], [((1,),), ((1,),), (((1,), 1),)])

    def test_machines_beyond_eight_tags(self):
        machine = (1, 'a', 5, (0,), ((1, 2, 3, 4, 0),), (0, 1))
        same(self, outer_bundles(machine, 'a'), tuple(outer_at(machine, 'a')))
        same(self, inner_bundles(machine, 'a'), tuple(inner_at(machine, 'a')))

    def test_refused(self):
        for function in (outer_bundles, inner_bundles, needs_at, most_crossing):
            check_label(self, function)


def check_label(case, function, *more):
    """Hands values of every kind over as machine and as label."""
    for thing in ANY:
        if not ref_machine(thing):
            refuses(case, 'machine', function, thing, None, *more)
        if thing not in ('a', 'b'):
            refuses(case, 'label', function, EVEN, thing, *more)
    refuses(case, 'label', function, GAP, 'b', *more)


def is_crossing_of(machine, label, pairs):
    """[98], the pairs being strings of labels of the machine."""
    wholes = lambda one, other: holds(machine, one[0].replace('_', other[1]))
    if not all(tree[0].lower() == label and wholes((text, tree), (text, tree)) for text, tree in pairs):
        return False
    return not any(wholes(one, other) and wholes(other, one) for one, other in itertools.combinations(pairs, 2))


def greatest_number(machine, label):
    """How many of the pairs of a bundle and a standing can be apart at the most, each two of them."""
    needs = needs_of(machine, label)
    apart = {(one, other) for one, other in itertools.permutations(needs, 2)
             if one[1] not in other[0] or other[1] not in one[0]}
    sets = [frozenset()]
    while True:
        more = {some | {one} for some in sets for one in needs
                if one not in some and all((one, other) in apart for other in some)}
        if not more:
            return len(next(iter(sets)))
        sets = more


class CrossingsTest(unittest.TestCase):
    def test_crossing(self):
        sizes = set()
        for machine, label in SPOTS:
            most = greatest_number(machine, label)
            same(self, most_crossing(machine, label), most)
            sizes.add(most)
            for size in range(most + 1):
                pairs = crossing(machine, label, size)
                self.assertTrue(type(pairs) is tuple and len(pairs) == size)
                self.assertTrue(all(type(pair) is tuple and len(pair) == 2 for pair in pairs))
                self.assertTrue(is_crossing_of(machine, label, pairs))
                self.assertIs(is_crossing(machine, label, pairs), True)
            for size in (most + 1, most + 2, 10 ** 59):
                same(self, crossing(machine, label, size), None)
        self.assertTrue({0, 1, 2, 3, 4} <= sizes, sizes)
        same(self, most_crossing(machine=RAFT, label='a'), 3)
        same(self, crossing(machine=RAFT, label='a', size=0), ())
        same(self, [most_crossing(NONE, 'a'), crossing(NONE, 'b', 0), crossing(NONE, 'b', 1)], [0, (), None])
        same(self, most_crossing(ONLY_A, 'b'), 0)

    def test_is_crossing(self):
        seen = {True: 0, False: 0}
        for machine, label in CHANCE.sample(BUSY, 60):
            texts = surroundings_up_to(machine[0], machine[1], 4 if machine[0] == 1 else 5)
            trees = [tree for tree in small_trees(machine[0], machine[1]) if tree[0].lower() == label][:40]
            for _ in range(40):
                pairs = []
                for _ in range(CHANCE.choice((1, 2, 2, 3, 4))):
                    pair = (CHANCE.choice(texts), CHANCE.choice(trees))
                    if CHANCE.random() < 0.1 or holds(machine, pair[0].replace('_', pair[1])):
                        pairs.append(pair)
                told = is_crossing_of(machine, label, pairs)
                self.assertIs(is_crossing(machine, label, tuple(pairs)), told)
                seen[told] += len(pairs) > 1
        self.assertTrue(min(seen.values()) > 100, seen)

    def test_other_things(self):
        pair = ('_', 'b')
        for thing in ANY:
            self.assertIs(is_crossing(EVEN, 'b', thing), thing == () and type(thing) is tuple, repr(thing)[:60])
        same(self, is_crossing(machine=EVEN, label='b', thing=(pair,)), True)
        for thing in ([pair], (list(pair),), ('_b',), (('_', 'b', 'b'),), (('_',),), (('b', '_'),), ((b'_', 'b'),),
                      (('_', None),), ((None, 'b'),), (('_', ''),), (('_', '_'),), (('__', 'b'),), (('_', 'bb'),),
                      (('_', 'a'),), (('_', 'Aa'),), (('_', 'c'),), (('C_', 'b'),), (('B_', 'Cb'),), (('_', 'Bc'),),
                      (('Ac_', 'b'),), (('A_', 'b'),), (pair, pair), (pair, ('B_', 'b')), (pair, ('AA_', 'Bb'))):
            self.assertIs(is_crossing(EVEN, 'b', thing), False, thing)
        same(self, is_crossing(EVEN, 'b', (pair, ('A_', 'Ba'))), True)
        same(self, is_crossing(EVEN, 'a', (('_', 'Aa'), ('B_', 'ABAa'))), False)
        # One exchange that fails is enough.
        same(self, is_crossing(GAP, 'a', (('_', 'a'), ('A_', 'Aa'))), True)
        same(self, is_crossing(GAP, 'a', (('_', 'a'), ('AA_', 'Aa'))), True)
        same(self, is_crossing(GAP, 'a', (('_', 'AAa'), ('AA_', 'a'))), False)

    def test_long_ones(self):
        tree = some_tree(CHANCE, 1, 'b', 39)
        same(self, is_crossing(EVEN, 'b', (('B' * 39 + '_', tree), ('A' + 'B' * 38 + '_', 'B' * 38 + 'a'))), True)
        same(self, is_crossing(EVEN, 'b', (('_', 'b'),) * 10000), False)
        same(self, is_crossing(ALL, 'b', (('B_', 'b'), ('B_', 'Bb'))), False)

    def test_refused(self):
        check_label(self, is_crossing, ())
        check_label(self, crossing, None)
        for thing in ANY:
            if not ref_number(thing):
                refuses(self, 'size', crossing, EVEN, 'a', thing)
        refuses(self, 'size', crossing, machine=EVEN, label='a', size=True)


class CoversTest(unittest.TestCase):
    def test_is_cover_and_first_lack(self):
        seen = {True: 0, False: 0}
        for machine, label in SPOTS:
            needs = needs_of(machine, label)
            choices = some_bundles(closed_at(machine, label))
            for bundles in CHANCE.sample(choices, min(len(choices), 20)):
                lacks = [need for need in needs if not any(serves(bundle, need) for bundle in bundles)]
                self.assertIs(is_cover(machine, label, bundles), lacks == [])
                same(self, first_lack(machine, label, bundles), min(lacks, default=None))
                seen[lacks == []] += 1
        self.assertTrue(min(seen.values()) > 200, seen)
        same(self, first_lack(machine=RAFT, label='b', bundles=((1, 3), (2,))), ((1,), 1))
        same(self, is_cover(machine=RAFT, label='b', thing=((1,), (1, 3), (2,))), True)
        same(self, [is_cover(NONE, 'a', ()), first_lack(NONE, 'a', ()), first_lack(EVEN, 'a', ())], [True, None, ((0,), 0)])

    def test_least_cover(self):
        unlike = 0
        for machine, label in SPOTS:
            for kind, bundles in kinds_at(machine, label).items():
                same(self, least_cover(machine, label, kind=kind), ref_first_cover(machine, label, bundles))
            same(self, least_cover(machine, label), least_cover(machine, label, kind='any'))
            unlike += len({least_cover(machine, label, kind=kind) for kind in ('any', 'inner', 'outer')}) > 1
        self.assertTrue(unlike > 5, unlike)
        same(self, least_cover(machine=RAFT, label='a'), ((0, 1), (0, 2), (1, 3)))
        same(self, least_cover(GAP, 'a', kind='inner'), ((0, 2), (1, 2)))
        same(self, [least_cover(NONE, 'a'), least_cover(ONLY_A, 'b', kind='outer')], [(), ()])

    def test_other_things(self):
        for thing in ANY:
            if thing != ():
                self.assertIs(is_cover(EVEN, 'a', thing), False)
                refuses(self, 'bundles', first_lack, EVEN, 'a', thing)
        same(self, is_cover(EVEN, 'a', ((0,), (1,))), True)
        for thing in ([(0,), (1,)], ((0,), [1]), ((1,), (0,)), ((0,), (0,), (1,)), ((0,), (True,)), ((False,), (1,)), ((0,), (1,), (2,)),
                      ((), (0,), (1,)), ((0,), (0, 1), (1,)), ((0,), '1'), ((0,), 1), ((0,), None), (0, 1), ((0,), (1,), None)):
            self.assertIs(is_cover(EVEN, 'a', thing), False, thing)
            refuses(self, 'bundles', first_lack, EVEN, 'a', thing)
        # Closed ones, but at the other label.
        same(self, [is_cover(RAFT, 'a', ((2,),)), is_cover(RAFT, 'b', ((0,),))], [False, False])
        refuses(self, 'bundles', first_lack, RAFT, 'b', ((0,),))

    def test_refused(self):
        check_label(self, is_cover, ())
        check_label(self, first_lack, None)
        for thing in ANY:
            if not ref_machine(thing):
                refuses(self, 'machine', least_cover, thing, None, kind=None)
            if thing not in ('a', 'b'):
                refuses(self, 'label', least_cover, EVEN, thing, kind=None)
            refuses(self, 'kind', least_cover, EVEN, 'a', kind=thing)
        refuses(self, 'label', least_cover, EVEN, 'c')
        with self.assertRaises(TypeError):
            least_cover(EVEN, 'a', 'inner')


class CoverChoicesTest(unittest.TestCase):
    def test_are_covered(self):
        seen = {True: 0, False: 0}
        for machine in SOME:
            bundles = bundles_of(machine)
            choices = some_bundles(sorted(bundles))
            for tags in CHANCE.sample(choices, min(len(choices), 25)) + [tuple(sorted(bundles))]:
                told = all(covers([bundles[tag] for tag in tags if tag[0] == label], needs_of(machine, label))
                           for label in machine[1])
                self.assertIs(are_covered(machine, tags), told)
                seen[told] += 1
        self.assertTrue(min(seen.values()) > 60, seen)
        same(self, are_covered(machine=GAP, tags=('a1', 'a2')), True)
        same(self, [are_covered(GAP, ('a0', 'a2', 'a3')), are_covered(NONE, ())], [False, True])

    def test_cover_tags(self):
        for machine in SOME:
            bundles = bundles_of(machine)
            for kind in ('inner', 'outer')[:3 - machine[0]]:
                told = {label: ref_first_cover(machine, label, kinds_at(machine, label)[kind]) for label in machine[1]}
                tags = tuple(sorted(tag for tag in bundles if bundles[tag] in told[tag[0]]))
                same(self, cover_tags(machine, kind), tags)
                self.assertTrue(tells_by(chosen(greatest_of(machine), tags), machine))
        same(self, cover_tags(machine=GAP, kind='inner'), ('a1', 'a2'))
        same(self, cover_tags(NONE, 'outer'), ())

    def test_cover_numbers_and_is_clear(self):
        seen = {True: 0, False: 0}
        by_outer = 0
        for machine in SOME:
            numbers, kinds = [], []
            for label in machine[1]:
                told = {kind: len(ref_first_cover(machine, label, bundles)) for kind, bundles in kinds_at(machine, label).items()}
                numbers.append((greatest_number(machine, label), told['any'], told['inner']))
                kinds.append(told)
            same(self, cover_numbers(machine), tuple(numbers))
            inner = all(told['inner'] == told['any'] for told in kinds)
            outer = machine[0] == 1 and all(told['outer'] == told['any'] for told in kinds)
            self.assertIs(is_clear(machine), inner or outer)
            seen[inner or outer] += 1
            by_outer += outer and not inner
        self.assertTrue(min(seen.values()) > 2 and by_outer > 3, (seen, by_outer))
        same(self, cover_numbers(machine=RAFT), ((3, 3, 4), (3, 3, 3)))
        same(self, is_clear(machine=RAFT), True)
        same(self, [cover_numbers(MIX), is_clear(MIX)], [((3, 3, 4),), False])
        same(self, [cover_numbers(NONE), is_clear(NONE)], [((0, 0, 0), (0, 0, 0)), True])

    def test_one_kind_for_all_labels(self):
        # By inner bundles alone some labels have as small a cover, by outer ones the others.
        mixed = beside(RAFT, TURNED_RAFT)
        for label in 'abcd':
            sizes = [len(least_cover(mixed, label, kind=kind)) for kind in ('any', 'inner', 'outer')]
            self.assertIn(sizes[0], sizes[1:])
        same(self, cover_numbers(mixed), cover_numbers(RAFT) + cover_numbers(TURNED_RAFT))
        same(self, [is_clear(RAFT), is_clear(TURNED_RAFT), is_clear(mixed)], [True, True, False])

    def test_outer_bundles_for_two(self):
        # A place stands as its first child does: outer bundles have as small covers, but are not laid from above here.
        many, labels, count, leaves, steps, good = RAFT
        doubled = (2, labels, count, leaves, tuple(tuple(q for q in row for _ in range(count)) for row in steps), good)
        for label in labels:
            same(self, len(least_cover(doubled, label, kind='outer')), len(least_cover(doubled, label)))
        same(self, [cover_numbers(doubled), is_clear(doubled)], [((3, 3, 4), (3, 3, 3)), False])

    def test_consequences(self):
        """[102]"""
        for machine in SOME:
            numbers = cover_numbers(machine)
            for label, (least, cover, inner) in zip(machine[1], numbers):
                self.assertTrue(least <= cover <= inner)
                self.assertTrue(is_cover(machine, label, outer_bundles(machine, label)))
                self.assertTrue(is_cover(machine, label, inner_bundles(machine, label)))
                for q, tree in least_trees_at(machine, label).items():
                    self.assertEqual(run(machine, tree), q)
            self.assertTrue(is_enough(machine, cover_tags(machine, 'inner')))
            if machine[0] == 1:
                self.assertTrue(is_enough(machine, cover_tags(machine, 'outer')))
            if machine in OVER[2:]:
                continue
            enough = numbers_enough(machine)
            self.assertTrue(any(all(told[0] <= one <= told[2] for one, told in zip(some, numbers)) for some in enough))
            if is_clear(machine):
                same(self, enough, (tuple(cover for _, cover, _ in numbers),))
            choices = some_bundles(sorted(bundles_of(machine)))
            for tags in CHANCE.sample(choices, min(len(choices), 15)):
                self.assertTrue(are_covered(machine, tags) or not is_enough(machine, tags))
            self.assertEqual(set(accepts_of(machine)) <= {()}, numbers == ((0, 0, 0),) * len(machine[1]))

    def test_refused(self):
        for thing in ANY:
            if not ref_machine(thing):
                for function in (cover_numbers, is_clear):
                    refuses(self, 'machine', function, thing)
                refuses(self, 'machine', are_covered, thing, None)
                refuses(self, 'machine', cover_tags, thing, None)
            if not ref_set(thing, lambda tag: tag in ('a0', 'a1', 'b0', 'b1')):
                refuses(self, 'tags', are_covered, EVEN, thing)
            refuses(self, 'kind', cover_tags, EVEN, thing)
        for kind in ('outer', 'any', 'Inner', 'inner '):
            refuses(self, 'kind', cover_tags, TWINS, kind)
        refuses(self, 'kind', cover_tags, machine=EVEN, kind='any')


if __name__ == "__main__":
    unittest.main()
