"""Machines on trees, and machines together ([80] to [82])."""

import itertools
import random
import unittest

from markladder.joining import both, either, least_machine, parting
from markladder.kinds import is_machine
from markladder.running import has, least_with, least_without, met, met_at, standing_of
from machines import (ALL, DEEP, GAP, MACHINES, MIX, NONE, UNMET, holds, key, least_by, least_trees, leaf, met_with, run,
                      small_trees, some_machine, some_machines, some_tree, step)
from values import ANY, EVEN, TWINS, ref_machine, refuses, same

CHANCE = random.Random(120)
PAIRS = [(EVEN, ALL), (ALL, EVEN), (EVEN, NONE), (EVEN, EVEN), (GAP, MIX), (UNMET, TWINS), (TWINS, TWINS)]
for _ in range(70):
    one = some_machine(CHANCE, most=CHANCE.choice((2, 3, 5)))
    PAIRS.append((one, some_machine(CHANCE, many=one[0], labels=one[1], most=CHANCE.choice((2, 3, 5)))))


class RunningTest(unittest.TestCase):
    def test_standings_and_properties(self):
        for machine in MACHINES:
            trees = small_trees(machine[0], machine[1])
            trees = CHANCE.sample(trees, min(len(trees), 120)) + [some_tree(CHANCE, machine[0], machine[1], 19) for _ in range(3)]
            for tree in trees:
                same(self, standing_of(machine, tree), run(machine, tree))
                self.assertIs(has(machine, tree), holds(machine, tree))
        same(self, standing_of(machine=TWINS, tree='AAabb'), 2)
        same(self, has(machine=EVEN, tree='AAa'), False)
        same(self, has(EVEN, 'ABAb'), True)
        same(self, standing_of(EVEN, 'A' * 300 + 'a'), 1)

    def test_other_labels(self):
        for tree in ('c', 'Ac', 'Ca', 'AZa'):
            self.assertIs(has(EVEN, tree), False)
            self.assertIs(has(ALL, tree), False)
            refuses(self, 'tree', standing_of, EVEN, tree)
        for tree in ('Aab', 'A', 'aa', 'A_', '', None, ['a'], True):
            refuses(self, 'tree', has, EVEN, tree)
            refuses(self, 'tree', standing_of, EVEN, tree)

    def test_met(self):
        sizes = set()
        for machine in MACHINES + some_machines(121, 60, many=2, labels='ab'):
            best = least_trees(machine)
            same(self, met(machine=machine), tuple(sorted(best.items())))
            sizes.update(len(tree) for tree in best.values())
            for label in machine[1]:
                same(self, met_at(machine, label), met_with(machine, label))
        self.assertTrue({1, 2, 3, 4, 5, 7} <= sizes)
        same(self, met(DEEP), ((0, 'a'), (1, 'Aaa'), (2, 'AAaaAaa'), (3, 'A' + 'AAaaAaa' * 2)))
        same(self, met(UNMET), ((0, 'a'), (1, 'b')))
        same(self, met_at(machine=UNMET, label='b'), (1,))
        same(self, met_at(TWINS, 'a'), (0, 1, 2))

    def test_least_trees(self):
        nones = [0, 0]
        for machine in MACHINES:
            best = least_trees(machine)
            good = sorted([tree for standing, tree in best.items() if standing in machine[5]], key=key)
            bad = sorted([tree for standing, tree in best.items() if standing not in machine[5]], key=key)
            same(self, least_with(machine=machine), good[0] if good else None)
            same(self, least_without(machine=machine), bad[0] if bad else None)
            nones = [nones[0] + (not good), nones[1] + (not bad)]
            for tree in small_trees(machine[0], machine[1]):
                self.assertTrue(key(good[0]) <= key(tree) if holds(machine, tree) else key(bad[0]) <= key(tree))
        self.assertTrue(min(nones) > 2)
        same(self, [least_with(DEEP), least_with(NONE), least_without(ALL), least_without(GAP)],
             ['A' + 'AAaaAaa' * 2, None, None, 'Aa'])

    def test_great_trees(self):
        # A machine whose least tree has more than a thousand signs: a chain of standings of two letters each time.
        count = 9
        steps = tuple(p + 1 if p == q and p < count - 1 else p if p == q else 0 for p in range(count) for q in range(count))
        tall = (2, 'a', count, (0,), (steps,), (8,))
        self.assertEqual(len(least_with(tall)), 511)
        same(self, least_with(tall), dict(met(tall))[8])
        # What is looked for is told, however great other trees are.
        count = 60
        steps = tuple(p + 1 if p == q and p < count - 1 else p if p == q else 0 for p in range(count) for q in range(count))
        same(self, least_with((2, 'a', count, (0,), (steps,), (2, 59))), 'AAaaAaa')
        same(self, least_without((2, 'a', count, (0,), (steps,), (0, 1))), 'AAaaAaa')

    def test_refused(self):
        for thing in ANY:
            if not ref_machine(thing):
                for function in (standing_of, has, met_at):
                    refuses(self, 'machine', function, thing, None)
                for function in (met, least_with, least_without):
                    refuses(self, 'machine', function, thing)
        for label in (*ANY, 'c', 'A'):
            if label not in ('a', 'b'):
                refuses(self, 'label', met_at, EVEN, label)


def product_trees(one, other):
    return least_by(one[0], one[1], lambda label: (leaf(one, label), leaf(other, label)),
                    lambda label, below: (step(one, label, [p for p, _ in below]), step(other, label, [q for _, q in below])))


def unlike_pairs(machine):
    """The pairs of standings that are met and that some surrounding tells apart."""
    standings = sorted(least_trees(machine))
    unlike = {(p, q) for p in standings for q in standings if (p in machine[5]) != (q in machine[5])}
    changes = True
    while changes:
        changes = False
        for p, q in itertools.product(standings, standings):
            if (p, q) in unlike:
                continue
            for label, spot in itertools.product(machine[1], range(machine[0])):
                for other in itertools.product(standings, repeat=machine[0] - 1):
                    ends = tuple(step(machine, label, other[:spot] + (end,) + other[spot:]) for end in (p, q))
                    if ends in unlike:
                        unlike.add((p, q))
                        changes = True
    return unlike


class JoiningTest(unittest.TestCase):
    def test_both_and_either(self):
        for one, other in PAIRS:
            for function, wanted in ((both, lambda p, q: p and q), (either, lambda p, q: p or q)):
                machine = function(one, other)
                self.assertTrue(is_machine(machine) and ref_machine(machine))
                same(self, machine[:2], one[:2])
                trees = small_trees(one[0], one[1])
                for tree in CHANCE.sample(trees, min(len(trees), 150)) + [some_tree(CHANCE, one[0], one[1], 15)]:
                    self.assertEqual(holds(machine, tree), wanted(holds(one, tree), holds(other, tree)))
                pairs = product_trees(one, other)
                for p, q in pairs:
                    self.assertEqual(holds(machine, pairs[p, q]), wanted(p in one[5], q in other[5]))
        same(self, parting(both(one=EVEN, other=ALL), EVEN), None)
        same(self, parting(either(one=EVEN, other=ALL), ALL), None)

    def test_parting(self):
        nones = 0
        for one, other in PAIRS + [(one, both(one, other)) for one, other in PAIRS[::4]]:
            parted = [tree for (p, q), tree in product_trees(one, other).items() if (p in one[5]) != (q in other[5])]
            same(self, parting(one, other), min(parted, key=key) if parted else None)
            nones += not parted
            for tree in small_trees(one[0], one[1])[:80]:
                if holds(one, tree) != holds(other, tree):
                    self.assertTrue(key(parting(one, other)) <= key(tree))
                    break
        self.assertTrue(nones > 8)
        same(self, parting(one=EVEN, other=NONE), 'b')
        # The least one that parts, not the first one of a standing: aB ahead of Ab by size alone.
        same(self, parting(GAP, MIX), 'Aa')

    def test_least_machine(self):
        smaller = 0
        for machine in MACHINES + some_machines(122, 50):
            found = least_machine(machine)
            self.assertTrue(ref_machine(found))
            same(self, found[:2], machine[:2])
            same(self, parting(found, machine), None)
            best, unlike = least_trees(machine), unlike_pairs(machine)
            firsts = []
            for standing in sorted(best, key=lambda standing: key(best[standing])):
                if all((standing, first) in unlike for first in firsts):
                    firsts.append(standing)
            same(self, found[2], len(firsts))
            smaller += len(firsts) < len(best)
            for index, first in enumerate(firsts):
                same(self, run(found, best[first]), index)
            trees = [tree for _, tree in met(found)]
            self.assertEqual(trees, sorted(trees, key=key))
            self.assertEqual(len(trees), found[2])
            same(self, least_machine(found), found)
        self.assertTrue(smaller > 10)
        same(self, least_machine(machine=NONE), (1, 'ab', 1, (0, 0), ((0,), (0,)), ()))
        same(self, least_machine(UNMET), (2, 'ab', 2, (0, 1), ((0,) * 4, (1,) * 4), (1,)))

    def test_same_property(self):
        """[82]"""
        for one, other in PAIRS:
            self.assertEqual(parting(one, other) is None, least_machine(one) == least_machine(other))
            doubled = both(one, either(one, other))
            self.assertEqual(least_machine(doubled), least_machine(one))
            renumbered = (*one[:2], one[2] + 2, *one[3:4], tuple(
                tuple(one[4][spot][p if one[0] == 1 else p * one[2] + q] if max(p, q) < one[2] else one[2]
                      for p in range(one[2] + 2) for q in range(one[2] + 2 if one[0] == 2 else 1))
                for spot in range(len(one[1]))), one[5] + (one[2] + 1,))
            same(self, parting(one, renumbered), None)
            same(self, least_machine(renumbered), least_machine(one))

    def test_refused(self):
        others = [GAP, TWINS, (1, 'a', 1, (0,), ((0,),), ()), (1, 'ac', 1, (0, 0), ((0,), (0,)), ()), (2, *NONE[1:4], ((0,), (0,)), ())]
        for function in (both, either, parting):
            for other in [thing for thing in ANY if not ref_machine(thing)] + others:
                if other[:2] != EVEN[:2] if isinstance(other, tuple) else True:
                    refuses(self, 'other', function, EVEN, other)
                if not ref_machine(other):
                    refuses(self, 'one', function, other, None)
        for thing in ANY:
            if not ref_machine(thing):
                refuses(self, 'machine', least_machine, thing)


if __name__ == "__main__":
    unittest.main()
