"""Surroundings, what they let, and closed bundles ([13], [86], [87])."""

import itertools
import random
import unittest

from markladder.bundles import closed_bundles, closing, shown_by
from markladder.surroundings import accept_bundles, let_by, surrounding_for
from closures import accepts_of, closed_at, least_trees_at, some_bundles
from machines import (ALL, DEEP, GAP, MACHINES, MIX, NONE, ONLY_A, RAFT, UNMET, holds, least_trees, lets,
                      met_with, run, small_trees, some_machines, surroundings_up_to)
from values import ANY, EVEN, TWINS, is_int, ref_machine, ref_surrounding, refuses, same

CHANCE = random.Random(140)
SOME = MACHINES + some_machines(141, 40, most=4)
MOST = {(1, 1): 9, (1, 2): 6, (1, 3): 5, (2, 1): 9, (2, 2): 5, (2, 3): 4}


def is_bundle(machine):
    met = set(least_trees(machine))
    return lambda thing: (type(thing) is tuple and all(is_int(one) for one in thing) and list(thing) == sorted(set(thing))
                          and set(thing) <= met)


class SurroundingsTest(unittest.TestCase):
    def test_let_by(self):
        for machine in SOME:
            texts = surroundings_up_to(machine[0], machine[1], MOST[machine[0], len(machine[1])])
            for text in CHANCE.sample(texts, min(len(texts), 40)) + ['_']:
                same(self, let_by(machine, text), lets(machine, text))
        same(self, let_by(machine=EVEN, surrounding='BA_'), (1,))
        same(self, let_by(EVEN, '_'), (0,))
        same(self, let_by(TWINS, 'A_b'), (1,))
        same(self, let_by(UNMET, '_'), (1,))
        same(self, let_by(ALL, 'A' * 300 + '_'), (0,))

    def test_other_labels(self):
        for text in ('C_', 'AC_', 'ZA_'):
            same(self, let_by(EVEN, text), ())
        same(self, let_by(TWINS, 'A_c'), ())
        same(self, let_by(TWINS, 'ACab_'), ())
        for text in ('', 'A', 'Aa', '__', 'A__', '_a', 'A_a', '_A', None, ['_'], 'A_ ', 'A-'):
            refuses(self, 'surrounding', let_by, EVEN, text)

    def test_accept_bundles(self):
        empty = 0
        for machine in SOME:
            accepts = accepts_of(machine)
            same(self, accept_bundles(machine=machine), accepts)
            empty += () in accepts
            for text in surroundings_up_to(machine[0], machine[1], 4):
                self.assertIn(lets(machine, text), accepts)
        self.assertTrue(5 < empty < len(SOME) - 5)
        same(self, accept_bundles(NONE), ((),))
        same(self, accept_bundles(EVEN), ((0,), (1,)))
        same(self, accept_bundles(MIX), ((0, 1, 2), (0, 1, 3), (0, 2), (1, 3)))

    def test_surrounding_for(self):
        nones = 0
        for machine in SOME:
            accepts = accepts_of(machine)
            bundles = some_bundles(sorted(least_trees(machine)))
            for yes in CHANCE.sample(bundles, min(len(bundles), 8)):
                for no in CHANCE.sample(bundles, min(len(bundles), 8)):
                    text = surrounding_for(machine, yes, no)
                    right = [one for one in accepts if set(yes) <= set(one) and not set(no) & set(one)]
                    self.assertEqual(text is None, right == [])
                    nones += text is None
                    if text is not None:
                        self.assertTrue(ref_surrounding(machine[0], text) and set(text.lower()) <= {*machine[1], '_'})
                        self.assertIn(lets(machine, text), right)
        self.assertTrue(nones > 100)
        same(self, surrounding_for(machine=EVEN, yes=(0, 1), no=()), None)
        same(self, let_by(EVEN, surrounding_for(machine=EVEN, yes=(), no=(0,))), (1,))
        same(self, surrounding_for(EVEN, (0,), (0,)), None)

    def test_wholes(self):
        """[89], as far as surroundings go."""
        for machine in SOME[:40]:
            texts = surroundings_up_to(machine[0], machine[1], 4)
            for text in CHANCE.sample(texts, min(len(texts), 9)):
                for tree in CHANCE.sample(small_trees(machine[0], machine[1]), 9):
                    whole = text.replace('_', tree)
                    standing = next(q for q, least in least_trees(machine).items() if same_standing(machine, least, tree))
                    self.assertEqual(holds(machine, whole), standing in let_by(machine, text))

    def test_refused(self):
        for machine in (UNMET, GAP, TWINS):
            fits = is_bundle(machine)
            for thing in (*ANY, (0, 1, 2), (1, 0), (0, 0), (2,), (3,), (5,), [0], (True,), 0, ('0',)):
                if not fits(thing):
                    refuses(self, 'yes', surrounding_for, machine, thing, None)
                    refuses(self, 'no', surrounding_for, machine, (), thing)
        for thing in ANY:
            if not ref_machine(thing):
                refuses(self, 'machine', let_by, thing, None)
                refuses(self, 'machine', accept_bundles, thing)
                refuses(self, 'machine', surrounding_for, thing, None, None)
            if not ref_surrounding(2, thing):
                refuses(self, 'surrounding', let_by, TWINS, thing)


def same_standing(machine, one, other):
    return run(machine, one) == run(machine, other)


class BundlesTest(unittest.TestCase):
    def test_closed_bundles(self):
        counts = set()
        for machine in SOME:
            for label in machine[1]:
                closed = closed_at(machine, label)
                same(self, closed_bundles(machine, label), closed)
                counts.add(len(closed))
        self.assertTrue({0, 1, 2, 3, 4, 5} <= counts)
        same(self, closed_bundles(machine=GAP, label='a'), ((0, 1, 2), (0, 2), (1, 2), (2,)))
        same(self, closed_bundles(EVEN, 'a'), ((0,), (1,)))
        same(self, closed_bundles(NONE, 'a'), ())
        same(self, [closed_bundles(UNMET, 'a'), closed_bundles(UNMET, 'b')], [((0,),), ((1,),)])
        same(self, [closed_bundles(ONLY_A, 'a'), closed_bundles(ONLY_A, 'b')], [((0,),), ()])

    def test_closing(self):
        nones = 0
        for machine in SOME:
            for label in machine[1]:
                closed = closed_at(machine, label)
                for bundle in some_bundles(met_with(machine, label))[1:]:
                    around = [one for one in closed if set(bundle) <= set(one)]
                    least = min(around, key=len, default=None)
                    same(self, closing(machine, label, bundle), least)
                    self.assertTrue(all(set(least) <= set(one) for one in around))
                    nones += least is None
                    self.assertEqual(bundle in closed, bundle == least)
        self.assertTrue(nones > 20)
        same(self, closing(machine=GAP, label='a', bundle=(0,)), (0, 2))
        same(self, closing(EVEN, 'b', (0, 1)), None)
        same(self, closing(RAFT, 'a', (2,)), closing(RAFT, 'a', bundle=(2,)))

    def test_shown_by(self):
        several = 0
        for machine in SOME:
            for label in machine[1]:
                for bundle in closed_bundles(machine, label):
                    texts = shown_by(machine, label, bundle)
                    self.assertTrue(type(texts) is tuple and texts != ())
                    for text in texts:
                        self.assertTrue(ref_surrounding(machine[0], text) and set(text.lower()) <= {*machine[1], '_'})
                    let = [q for q in met_with(machine, label) if all(q in lets(machine, text) for text in texts)]
                    same(self, tuple(let), bundle)
                    several += len(texts) > 1
        self.assertTrue(several > 20)
        same(self, [let_by(GAP, text) for text in shown_by(machine=GAP, label='a', bundle=(0, 1, 2))], [(0, 1, 2)])

    def test_consequences(self):
        for machine in SOME:
            for label in machine[1]:
                closed = closed_bundles(machine, label)
                for one, other in itertools.product(closed, closed):
                    both = tuple(q for q in one if q in other)
                    self.assertTrue(both == () or both in closed)
                trees = [tree for tree in small_trees(machine[0], machine[1]) if label in tree.lower() and holds(machine, tree)]
                if trees:
                    self.assertNotEqual(closed, ())
                if closed:
                    text = shown_by(machine, label, closed[0])[0]
                    wholes = [text.replace('_', least_trees_at(machine, label)[q]) for q in closed[0]]
                    self.assertTrue(all(holds(machine, whole) and label in whole.lower() for whole in wholes))

    def test_refused(self):
        for machine, label in ((GAP, 'a'), (UNMET, 'b'), (UNMET, 'a'), (TWINS, 'a')):
            met = set(met_with(machine, label))
            closed = closed_bundles(machine, label)
            for thing in (*ANY, (0, 1, 2), (1, 0), (0, 0), (2,), (3,), (1,), (0,), [0], (True,), (1, 2), (0, 1)):
                if not is_bundle(machine)(thing) or thing == () or not set(thing) <= met:
                    refuses(self, 'bundle', closing, machine, label, thing)
                if not is_bundle(machine)(thing) or thing not in closed:
                    refuses(self, 'bundle', shown_by, machine, label, thing)
        for thing in ANY:
            if not ref_machine(thing):
                refuses(self, 'machine', closed_bundles, thing, None)
                refuses(self, 'machine', closing, thing, None, None)
                refuses(self, 'machine', shown_by, thing, None, None)
            if thing not in ('a', 'b'):
                refuses(self, 'label', closed_bundles, EVEN, thing)
                refuses(self, 'label', closing, EVEN, thing, None)
                refuses(self, 'label', shown_by, EVEN, thing, None)
        same(self, closed_bundles(DEEP, 'a') != (), True)


if __name__ == "__main__":
    unittest.main()
