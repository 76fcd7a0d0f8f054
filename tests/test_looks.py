"""Cut parts, trees that pass, looks that tell a machine, and papers on them ([110] to [113])."""

import itertools
import random
import unittest

from markladder.cutparts import cut_part, inner_cuts, top_cuts
from markladder.joining import least_machine
from markladder.looks import least_look, lets_looks, looks_paper, passes, tells_by_looks
from machines import (ALL, DEEP, GAP, MIX, NONE, ONLY_A, RAFT, UNMET, holds, leaf, least_by, some_machines, some_tree, step,
                      trees_up_to)
from oracles import places_in
from values import (ANY, EVEN, TWINS, changed, faulty, first_fault, is_int, outcome, ref_machine, ref_number, ref_standing,
                    ref_tree, refuses, same)

CHANCE = random.Random(250)
IN_TURN = (1, 'ab', 3, (0, 1), ((2, 0, 2), (1, 2, 2)), (0, 1))
# The top is b, and below an a there is no b.
SORTED = (1, 'ab', 3, (0, 1), ((0, 2, 2), (1, 1, 2)), (1,))
# A b, and over two a or more; so no place but the top is b.
ALONE = (1, 'ab', 4, (0, 2), ((1, 1, 3, 3), (3, 2, 3, 3)), (2,))
PAIR = (2, 'a', 3, (0,), ((1, 2, 2, 2, 2, 2, 2, 2, 2),), (1,))
FIRST = [ALONE, PAIR, EVEN, TWINS, GAP, ALL, NONE, ONLY_A, IN_TURN, SORTED, UNMET, DEEP, RAFT, MIX]
SOME = FIRST + [machine for machine in some_machines(251, 60, most=4) if len(machine[1]) < 3 or machine[0] == 1]
SIGNS = {(1, 1): 12, (1, 2): 8, (1, 3): 6, (2, 1): 13, (2, 2): 7}


def cut_at(many, tree, place, depth):
    told = places_in(many, tree)
    low = told[place]['depth'] + depth
    inside = range(place, place + len(told[place]['part']))
    return ''.join(tree[spot].lower() if told[spot]['depth'] == low else tree[spot]
                   for spot in inside if told[spot]['depth'] <= low)


def cuts_of(machine, depth):
    """The sets of the cut parts of tops and of other places of the trees with the property.

    A state of a tree has its cut part, its standing, and the cut parts of all its other places.
    """
    if depth not in CUTS.setdefault(machine, {}):
        many, _, count, _, _, good = machine
        alive = live_standings(machine)
        states = least_by(many, machine[1], lambda label: (label, leaf(machine, label)),
                          lambda label, below: (shortened(many, label, below, depth), step(machine, label, [q for _, q in below])))
        above = {q for q in range(count) for label in machine[1] for below in itertools.product(states_met(states), repeat=many)
                 if q in below and step(machine, label, below) in alive}
        tops = {cut for cut, q in states if q in good}
        CUTS[machine][depth] = (tuple(sorted(tops)), tuple(sorted({cut for cut, q in states if q in above})))
    return CUTS[machine][depth]


CUTS = {}


def states_met(states):
    return sorted({q for _, q in states})


def shortened(many, label, below, depth):
    return cut_at(many, label.upper() + ''.join(cut for cut, _ in below), 0, depth)


def live_standings(machine):
    many, labels, count, leaves, _, good = machine
    met = set(least_by(many, labels, lambda label: leaf(machine, label), lambda label, below: step(machine, label, below)))
    alive = set(good) & met
    while True:
        more = {q for below in itertools.product(met, repeat=many) for label in labels
                if step(machine, label, below) in alive for q in below} | alive
        if more == alive:
            return alive
        alive = more


def does_pass(machine, tree, depth):
    tops, inner = cuts_of(machine, depth)
    cuts = [cut_at(machine[0], tree, place, depth) for place in range(len(tree))]
    return cuts[0] in tops and all(cut in inner for cut in cuts[1:])


def depths_for(machine):
    return range(4) if machine[0] == 1 else range(2)


def trees_for(machine):
    return trees_up_to(machine[0], machine[1], SIGNS[machine[0], len(machine[1])])


def some_trees(machine, number):
    trees = trees_for(machine)
    return CHANCE.sample(trees, min(len(trees), number))


class CutPartsTest(unittest.TestCase):
    def test_cut_part(self):
        for many, labels in ((1, 'ab'), (2, 'ab')):
            for _ in range(60):
                tree = some_tree(CHANCE, many, labels, CHANCE.randrange(8))
                for place, depth in itertools.product(range(len(tree)), (0, 1, 2, 3, 10 ** 20)):
                    cut = cut_part(many, tree, place, depth)
                    same(self, cut, cut_at(many, tree, place, depth))
                    self.assertTrue(ref_tree(many, cut))
        same(self, cut_part(many=2, tree='ABabb', place=0, depth=1), 'Abb')
        same(self, [cut_part(2, 'ABabb', place, 0) for place in range(5)], ['a', 'b', 'a', 'b', 'b'])
        same(self, [cut_part(2, 'ABabb', 0, 2), cut_part(2, 'ABabb', 1, 5), cut_part(1, 'AQz', 0, 1)], ['ABabb', 'Bab', 'Aq'])
        same(self, cut_part(1, 'A' * 39 + 'b', 3, 30), 'A' * 30 + 'a')

    def test_cuts(self):
        for machine in SOME:
            for depth in depths_for(machine):
                tops, inner = cuts_of(machine, depth)
                same(self, top_cuts(machine, depth), tops)
                same(self, inner_cuts(machine, depth), inner)
                for tree in some_trees(machine, 30):
                    if holds(machine, tree):
                        cuts = [cut_at(machine[0], tree, place, depth) for place in range(len(tree))]
                        self.assertTrue(cuts[0] in tops and set(cuts[1:]) <= set(inner))
        same(self, inner_cuts(machine=IN_TURN, depth=1), ('Ab', 'Ba', 'a', 'b'))
        same(self, top_cuts(machine=SORTED, depth=1), ('Ba', 'Bb', 'b'))
        same(self, [top_cuts(SORTED, 0), inner_cuts(SORTED, 0), inner_cuts(SORTED, 2)], [('b',), ('a', 'b'), ('AAa', 'Aa', 'BAa', 'BBa', 'BBb', 'Ba', 'Bb', 'a', 'b')])
        same(self, [top_cuts(NONE, 2), inner_cuts(NONE, 2)], [(), ()])
        # The one tree with the property is a single place.
        same(self, [top_cuts((1, 'a', 2, (0,), ((1, 1),), (0,)), 2), inner_cuts((1, 'a', 2, (0,), ((1, 1),), (0,)), 2)], [('a',), ()])

    def test_all_small_trees(self):
        """By machines of which small trees have all cut parts."""
        for machine in (EVEN, GAP, IN_TURN, SORTED, ONLY_A, ALL):
            for depth in (0, 1, 2):
                cuts = [[cut_at(1, tree, place, depth) for place in range(len(tree))] for tree in trees_up_to(1, machine[1], 8)
                        if holds(machine, tree)]
                same(self, top_cuts(machine, depth), tuple(sorted({told[0] for told in cuts})))
                same(self, inner_cuts(machine, depth), tuple(sorted({cut for told in cuts for cut in told[1:]})))

    def test_refused(self):
        for thing in ANY:
            if not is_int(thing) or thing not in (1, 2):
                refuses(self, 'many', cut_part, thing, None, None, None)
            if not ref_tree(2, thing):
                refuses(self, 'tree', cut_part, 2, thing, None, None)
            if not ref_standing(5)(thing):
                refuses(self, 'place', cut_part, 2, 'AaBab', thing, None)
            if not ref_number(thing):
                refuses(self, 'depth', cut_part, 2, 'AaBab', 0, thing)
                refuses(self, 'depth', top_cuts, EVEN, thing)
                refuses(self, 'depth', inner_cuts, EVEN, thing)
                refuses(self, 'depth', tells_by_looks, EVEN, thing)
                refuses(self, 'depth', looks_paper, EVEN, thing)
                refuses(self, 'depth', lets_looks, EVEN, thing, None)
                refuses(self, 'depth', passes, EVEN, 'Ab', thing)
            if not ref_machine(thing):
                for function in (top_cuts, inner_cuts, tells_by_looks, looks_paper):
                    refuses(self, 'machine', function, thing, None)
                refuses(self, 'machine', passes, thing, None, None)
                refuses(self, 'machine', lets_looks, thing, None, None)
                refuses(self, 'machine', least_look, thing)
            if not ref_tree(1, thing) or not set(thing.lower()) <= {*'ab'}:
                refuses(self, 'tree', passes, EVEN, thing, None)
        refuses(self, 'tree', passes, machine=EVEN, tree='Ac', depth=1)


class LooksTest(unittest.TestCase):
    def test_passes(self):
        seen = {True: 0, False: 0}
        for machine in SOME:
            for depth in depths_for(machine):
                for tree in some_trees(machine, 12):
                    told = does_pass(machine, tree, depth)
                    self.assertIs(passes(machine, tree, depth), told)
                    self.assertTrue(told or not holds(machine, tree))
                    if told and depth > 0:
                        self.assertIs(passes(machine, tree, depth - 1), True)
                    seen[told] += 1
        self.assertTrue(min(seen.values()) > 300, seen)
        same(self, [passes(machine=IN_TURN, tree='Aa', depth=0), passes(IN_TURN, 'Aa', 1)], [True, False])

    def test_tells(self):
        seen = {}
        for machine in SOME:
            told = []
            for depth in depths_for(machine):
                right = tells_by_looks(machine, depth)
                fault = next((tree for tree in trees_for(machine) if not holds(machine, tree) and does_pass(machine, tree, depth)), None)
                if fault is not None:
                    self.assertIs(right, False)
                told.append(right)
                if not right:
                    # A small enough tree was gone through, or the paper has a greater one.
                    tree = fault or looks_paper(machine, depth)[1]
                    self.assertTrue(does_pass(machine, tree, depth) and not holds(machine, tree))
                if depth > 0 and told[depth - 1]:
                    self.assertIs(right, True)
            least = told.index(True) if True in told else None
            same(self, least_look(machine), least)
            seen[machine[0], least] = seen.get((machine[0], least), 0) + 1
        self.assertTrue({(1, None), (1, 0), (1, 1), (1, 2), (2, None), (2, 0), (2, 1)} <= {*seen}, seen)
        same(self, [least_look(machine=IN_TURN), least_look(EVEN), least_look(SORTED)], [1, None, 1])
        same(self, [looks_paper(ALONE, 0)[:2], least_look(ALONE)], [('tree', 'Ba'), 2])
        same(self, [tells_by_looks(machine=IN_TURN, depth=0), tells_by_looks(IN_TURN, 1)], [False, True])
        same(self, [least_look(NONE), least_look(ALL), least_look(ONLY_A)], [0, 0, 0])

    def test_the_greatest_depths(self):
        # A row of labels has the property if it has this many places: its top must see them all.
        for places, told in ((1, 0), (2, 1), (3, 2), (4, 3), (5, None)):
            steps = tuple(min(q + 1, places) for q in range(places + 1))
            machine = (1, 'a', places + 1, (0,), (steps,), (places - 1,))
            same(self, least_look(machine), told)
            same(self, [tells_by_looks(machine, depth) for depth in range(places - 1)], [False] * (places - 1))
            same(self, tells_by_looks(machine, places - 1), True)
        # One place, a place with two children, and one more step down.
        one, two = (2, 'a', 2, (0,), ((1, 1, 1, 1),), (0,)), (2, 'a', 3, (0,), ((1, 2, 2, 2, 2, 2, 2, 2, 2),), (1,))
        three = (2, 'a', 4, (0,), ((1, 3, 3, 3, 2, *(3,) * 11),), (2,))
        same(self, [least_look(machine) for machine in (one, two, three)], [0, 1, None])
        same(self, tells_by_looks(three, 2), True)

    def test_same_for_the_least_machine(self):
        for machine in SOME:
            same(self, least_look(least_machine(machine)), least_look(machine))


def faults(machine, depth, thing):
    """What is wrong with any value as a paper, in the order of [113]."""
    form = type(thing) is tuple and len(thing) in (2, 3) and type(thing[0]) is str and thing[0] == ('closed', 'tree')[len(thing) - 2]
    if not form or type(thing[-1]) is not tuple:
        yield 'shape', -1
    elif len(thing) == 2:
        yield from closed_faults(machine, depth, thing[1])
    else:
        yield from tree_faults(machine, depth, *thing[1:])


def is_tree(machine, thing):
    return ref_tree(machine[0], thing) and set(thing.lower()) <= set(machine[1])


def closed_faults(machine, depth, pairs):
    for k, pair in enumerate(pairs):
        if not (type(pair) is tuple and len(pair) == 2 and is_tree(machine, pair[0]) and ref_standing(machine[2])(pair[1])
                and places_in(machine[0], pair[0])[0]['height'] <= depth):
            yield 'pair', k
            return
        if k and not pair > pairs[k - 1]:
            yield 'order', k
            return
    tops, inner = cuts_of(machine, depth)
    for j, label in enumerate(machine[1]):
        for indexes in [(), *itertools.product(range(len(pairs)), repeat=machine[0])]:
            below = [pairs[k] for k in indexes]
            cut = shortened(machine[0], label, below, depth) if below else label
            q = step(machine, label, [q for _, q in below]) if below else leaf(machine, label)
            if cut in inner and (cut, q) not in pairs:
                yield 'inner', (j, *indexes)
            if cut in tops and q not in machine[5]:
                yield 'top', (j, *indexes)


def tree_faults(machine, depth, tree, witnesses):
    if not is_tree(machine, tree):
        yield 'tree', -1
        return
    if holds(machine, tree):
        yield 'has', -1
    if len(witnesses) != len(tree):
        yield 'many', -1
        return
    for place, witness in enumerate(witnesses):
        if not (type(witness) is tuple and len(witness) == 2 and is_tree(machine, witness[0]) and holds(machine, witness[0])
                and ref_standing(len(witness[0]))(witness[1]) and (witness[1] == 0) == (place == 0)):
            yield 'witness', place
            return
        if cut_at(machine[0], witness[0], witness[1], depth) != cut_at(machine[0], tree, place, depth):
            yield 'cut', place


PAPERS = [(machine, depth) for machine in SOME for depth in depths_for(machine)]


class PapersTest(unittest.TestCase):
    def test_papers_are_accepted(self):
        seen = {}
        for machine, depth in PAPERS:
            paper = looks_paper(machine, depth)
            told = tells_by_looks(machine, depth)
            self.assertEqual(list(faults(machine, depth, paper)), [])
            self.assertIs(lets_looks(machine, depth, paper), told)
            self.assertEqual(paper[0], 'closed' if told else 'tree')
            seen[told] = seen.get(told, 0) + 1
        self.assertTrue(min(seen.values()) > 50, seen)
        same(self, looks_paper(machine=IN_TURN, depth=1), ('closed', (('Ab', 0), ('Ba', 1), ('a', 0), ('b', 1))))
        same(self, lets_looks(machine=IN_TURN, depth=1, thing=('closed', (('Ab', 0), ('Ba', 1), ('a', 0), ('b', 1)))), True)

    def test_papers_by_hand(self):
        same(self, lets_looks(IN_TURN, 0, ('tree', 'Aa', (('a', 0), ('Ba', 1)))), False)
        # More pairs than are needed, and other trees than the package tells.
        same(self, lets_looks(SORTED, 1, ('closed', (('Aa', 0), ('Ba', 1), ('Bb', 1), ('a', 0), ('b', 1)))), True)
        same(self, lets_looks(IN_TURN, 1, ('closed', (('Aa', 0), ('Ab', 0), ('Ba', 1), ('a', 0), ('b', 1)))), True)
        same(self, lets_looks(IN_TURN, 0, ('tree', 'BBAb', (('BAb', 0), ('Ab', 1), ('BAb', 1), ('ABAb', 3)))), False)
        same(self, lets_looks(NONE, 2, ('closed', ())), True)
        same(self, lets_looks(ALL, 0, ('closed', (('a', 0), ('b', 0)))), True)

    def test_each_entry_of_pairs(self):
        good = (('Ab', 0), ('Ba', 1), ('a', 0), ('b', 1))
        refused = lambda word, at, pairs, depth=1: faulty(self, word, at, lets_looks, IN_TURN, depth, ('closed', pairs))
        for pair in (('Ab',), ('Ab', 0, 0), ['Ab', 0], 'ab', None, ('Ab', 3), ('Ab', -1), ('Ab', True), ('Ab', '0'), ('', 0), ('Ac', 0),
                     ('Aab', 0), ('ABa', 0), ('A', 0), (None, 0), (('a',), 0)):
            refused('pair', 0, (pair, *good))
            refused('pair', 2, (good[0], good[1], pair, ('a', 0), ('a', 0)))
        refused('pair', 0, good, 0)
        refused('order', 1, (good[0], good[0], *good[2:], None))
        refused('order', 3, (*good[:2], good[3], good[2]))
        refused('order', 1, (('a', 1), ('a', 0)))
        refused('inner', (0,), ())
        refused('inner', (1,), (('a', 0),))
        refused('inner', (0, 1), (('a', 0), ('b', 1)))
        refused('inner', (1, 0), (('Ab', 0), ('a', 0), ('b', 1)))
        refused('inner', (0, 0), (('Ba', 1), ('a', 0), ('a', 1), ('b', 0), ('b', 1)))
        refused('inner', (0, 2), (('Ab', 0), ('Ba', 1), ('Ba', 2), *good[2:]))
        # At depth 0 a place below any other one is let.
        refused('inner', (0, 0), (('a', 0), ('b', 1)), 0)
        refused('top', (0, 0), (('a', 0), ('a', 2), ('b', 1), ('b', 2)), 0)
        faulty(self, 'top', (0,), lets_looks, (1, 'a', 2, (0,), ((1, 1),), (1,)), 0, ('closed', (('a', 0), ('a', 1))))

    def test_each_entry_of_trees(self):
        good = (('a', 0), ('Ba', 1))
        refused = lambda word, at, *told: faulty(self, word, at, lets_looks, IN_TURN, 0, ('tree', *told))
        for tree in ('', 'A', 'Aab', 'Ac', 'aA', None, 0, ('Aa',), ['Aa'], '_', 'A' * 5000):
            refused('tree', -1, tree, ())
        refused('has', -1, 'Ab', ())
        for witnesses in ((), good[:1], (*good, good[1]), (None,)):
            refused('many', -1, 'Aa', witnesses)
        for witness in (('a',), ['a', 0], ('Ba', 1, 0), ('Ba', 0), ('Ba', 2), ('Ba', True), ('Ba', -1), ('Aa', 1), ('Ca', 1), ('c', 0), 'a0',
                        None, ('Ba', '1'), (None, 1), ('', 1)):
            refused('witness', 1, 'Aa', (good[0], witness))
        for witness in (('Ba', 1), ('a', True), ('a', False), ('Aa', 0), ('', 0)):
            refused('witness', 0, 'Aa', (witness, None))
        refused('cut', 0, 'Aa', (('b', 0), None))
        refused('cut', 1, 'Aa', (good[0], ('Ab', 1)))
        faulty(self, 'cut', 0, lets_looks, IN_TURN, 1, ('tree', 'Aa', good))

    def test_each_shape(self):
        for thing in ANY:
            faulty(self, 'shape', -1, lets_looks, EVEN, 1, thing)
        for thing in (['closed', ()], ('closed', []), ('closed', (), ()), ('tree', 'Aa'), ('tree', 'Aa', []), ('tree', (), (), ()),
                      ('Closed', ()), (('closed',), ()), ['tree', 'a', ()], ('closed', None), ('tree', 'a', None), ('closed',)):
            faulty(self, 'shape', -1, lets_looks, EVEN, 1, thing)

    def test_changed_papers(self):
        words = {}
        pool = ['closed', 'tree', (), 'a', 'b', 'Aa', 'Ab', 'Ba', 'Bb', 'AAa', 'Aaa', 'Aab', 'Baa', 'c', 0, 1, 2, 3, 4, True, None, [],
                ('a', 0), ('b', 1), ('Ab', 1), ('Aa', 0), ('Aaa', 0)]
        for machine, depth in CHANCE.sample(PAPERS, 120):
            paper = looks_paper(machine, depth)
            if len(paper[-1]) > 30:
                continue
            for _ in range(25):
                other = paper
                for _ in range(CHANCE.choice((1, 1, 2))):
                    other = changed(CHANCE, other, pool)
                if CHANCE.random() < 0.5 and type(other) is tuple and other[:1] == ('closed',) and type(other[-1]) is tuple:
                    pairs = [pair for pair in other[-1] if type(pair) is tuple and len(pair) == 2 and type(pair[0]) is str and is_int(pair[1])]
                    cuts = [cut for told in cuts_of(machine, depth) for cut in told]
                    more = [(CHANCE.choice(cuts), CHANCE.randrange(machine[2])) for _ in cuts[:CHANCE.randint(0, 2)]]
                    other = ('closed', tuple(sorted({*pairs, *more})))
                told = first_fault(faults(machine, depth, other))
                found = outcome(lets_looks, machine, depth, other)
                self.assertEqual(found, told or repr(other[0] == 'closed'), (machine, depth, other))
                word = told.split("'")[3] if told else None
                words[word] = words.get(word, 0) + 1
        self.assertEqual({*words}, {None, 'shape', 'pair', 'order', 'inner', 'top', 'tree', 'has', 'many', 'witness', 'cut'})


if __name__ == "__main__":
    unittest.main()
