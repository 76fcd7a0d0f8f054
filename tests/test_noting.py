"""Notes of trees, and checkers beside machines ([12], [83] to [85])."""

import itertools
import random
import unittest

from markladder.kinds import is_machine
from markladder.noting import count_noted, crying, is_noted, noted, tops_of_notes
from markladder.objects import Checker
from markladder.telling import checker_machine, tell_fault, tells
from machines import (ALL, CHECKERS, GAP, NONE, holds, key, leaf, least_by, small_trees, some_checker,
                      some_machine, some_tree, step)
from oracles import places_in
from values import (ANY, EVEN, PARITY, TWINS, ref_checker, ref_lot, ref_machine, ref_notes, ref_tree, refuses, same)

CHANCE = random.Random(130)


def notes_used(checker):
    return sorted({sign for text in [*checker[1], *checker[2], *checker[3]] for sign in text if sign.isdigit()})


def ref_crying(checker, tree, notes):
    many, tops, leaves, rows = checker
    tag = lambda place: tree[place].lower() + notes[place]
    found = []
    for place, told in enumerate(places_in(many, tree)):
        if told['children']:
            let = tag(place) + ''.join(tag(child) for child in told['children']) in rows
        else:
            let = tag(place) in leaves
        if not let or place == 0 and tag(0) not in tops:
            found.append(place)
    return tuple(found)


def all_notes(checker, tree):
    return [''.join(notes) for notes in itertools.product(notes_used(checker), repeat=len(tree))]


def right_notes(checker, tree):
    return [notes for notes in all_notes(checker, tree) if ref_crying(checker, tree, notes) == ()]


def cases(checkers, most):
    """Pairs of a checker and a tree of its labels, and perhaps of another one, not too many notes for each tree."""
    found = []
    for checker in checkers:
        labels = ''.join(sorted({text[0] for text in [*checker[1], *checker[2]]} | {'a'}))
        trees = [tree for tree in small_trees(checker[0], labels[:2]) if len(notes_used(checker)) ** len(tree) <= most]
        found.extend((checker, tree) for tree in CHANCE.sample(trees, min(len(trees), 9)))
        found.append((checker, 'c'))
    return found


class NotingTest(unittest.TestCase):
    def test_crying(self):
        for checker, tree in cases(CHECKERS, 300):
            for notes in CHANCE.sample(all_notes(checker, tree), min(len(all_notes(checker, tree)), 40)) + ['9' * len(tree)]:
                told = ref_crying(checker, tree, notes)
                same(self, crying(checker, tree, notes), told)
                self.assertIs(is_noted(checker, tree, notes), told == ())
        same(self, crying(checker=PARITY, tree='Aa', notes='10'), (0, 1))
        same(self, crying(PARITY, 'Aa', '01'), ())
        same(self, crying(PARITY, 'Ca', '01'), (0,))
        same(self, is_noted(checker=PARITY, tree='Aa', thing='01'), True)
        # The top may be let but for tops alone.
        same(self, crying(PARITY, 'a', '1'), (0,))

    def test_noted_and_counts(self):
        found = set()
        for checker, tree in cases(CHECKERS, 800):
            right = right_notes(checker, tree)
            same(self, noted(checker, tree), min(right, default=None))
            same(self, noted(checker, tree, None), min(right, default=None))
            same(self, count_noted(checker, tree), len(right))
            found.add(len(right))
            for _ in range(4):
                base = CHANCE.choice(right) if right and CHANCE.random() < 0.7 else ''.join(CHANCE.choice('012') for _ in tree)
                told = ''.join(note if CHANCE.random() < 0.5 else '?' for note in base)
                agreeing = [notes for notes in right if all(one in ('?', other) for one, other in zip(told, notes))]
                same(self, noted(checker, tree, told), min(agreeing, default=None))
            tops = {tree[0].lower() + notes[0] for notes in all_notes(checker, tree) if ref_crying(checker, tree, notes) in ((), (0,))
                    and ref_crying((checker[0], (tree[0].lower() + notes[0],), *checker[2:]), tree, notes) == ()}
            same(self, tops_of_notes(checker, tree), tuple(sorted(tops)))
            self.assertEqual(bool(right), bool(tops & set(checker[1])))
        self.assertTrue({0, 1, 2, 3, 4} <= found)
        same(self, noted(checker=PARITY, tree='ABa', notes='0??'), '011')
        same(self, noted(PARITY, 'ABa', notes='1??'), None)
        same(self, [count_noted(checker=PARITY, tree='ABa'), tops_of_notes(checker=PARITY, tree='Aa')], [1, ('a0',)])

    def test_great_counts(self):
        free = (1, ('a0', 'a1'), ('a0', 'a1'), ('a0a0', 'a0a1', 'a1a0', 'a1a1'))
        same(self, count_noted(free, 'A' * 39 + 'a'), 2 ** 40)
        same(self, noted(free, 'A' * 300 + 'a', '?' * 300 + '1'), '0' * 300 + '1')
        wide = (2, ('a0',), ('a0', 'a1'), tuple(sorted('a' + p + 'a' + q + 'a' + r for p in '01' for q in '01' for r in '01')))
        same(self, count_noted(wide, 'A' * 20 + 'a' * 21), 2 ** 40)
        # The first child's notes are least among those that go with some of the second one's.
        pick = (2, ('a0',), ('b1', 'b2', 'b3'), ('a0b2b1', 'a0b2b3', 'a0b3b1'))
        same(self, [noted(pick, 'Abb'), noted(pick, 'Abb', '??3'), noted(pick, 'Abb', '?3?'), count_noted(pick, 'Abb')], ['021', '023', '031', 3])

    def test_other_things_as_notes(self):
        for thing in (*ANY, '0', '011', '0?', '??', ['0', '1'], 0, '01\n', '0a'):
            kept = repr(thing)
            self.assertIs(is_noted(PARITY, 'Aa', thing), thing == '01')
            if not ref_notes(thing) or len(thing) != 2 or '?' in thing:
                refuses(self, 'notes', crying, PARITY, 'Aa', thing)
            if thing is not None and (not ref_notes(thing) or len(thing) != 2):
                refuses(self, 'notes', noted, PARITY, 'Aa', thing)
            self.assertEqual(repr(thing), kept)

    def test_refused(self):
        for thing in ANY:
            if not ref_checker(thing):
                for function in (crying, is_noted):
                    refuses(self, 'checker', function, thing, None, None)
                for function in (noted, count_noted, tops_of_notes):
                    refuses(self, 'checker', function, thing, None)
            if not ref_tree(1, thing):
                for function in (crying, is_noted):
                    refuses(self, 'tree', function, PARITY, thing, None)
                for function in (count_noted, tops_of_notes):
                    refuses(self, 'tree', function, PARITY, thing)
                refuses(self, 'tree', noted, PARITY, thing, 7)


def product_trees(checker, machine):
    """The least trees by the set of the tags let at their top and by their standing."""
    labels = sorted({*machine[1], *[tag for text in [*checker[1], *checker[2], *checker[3]] for tag in text if tag.isalpha()]})

    def state_of(label, below):
        rows = [tuple(text[index:index + 2] for index in range(0, len(text), 2)) for text in (checker[3] if below else checker[2])]
        tags = frozenset(row[0] for row in rows if row[0][0] == label
                         and all(tag in tags for tag, (tags, _) in zip(row[1:], below)))
        if label not in machine[1] or None in [standing for _, standing in below]:
            return tags, None
        return tags, step(machine, label, [standing for _, standing in below]) if below else leaf(machine, label)
    return least_by(checker[0], labels, lambda label: state_of(label, ()), state_of)


TELLING = [(PARITY, EVEN), (PARITY, ALL), (PARITY, GAP), ((1, (), (), ()), NONE), ((2, (), (), ()), TWINS),
           ((1, ('a0', 'b0'), ('a0', 'b0'), ('a0a0', 'a0b0', 'b0a0', 'b0b0')), ALL)]
for _ in range(120):
    machine = some_machine(CHANCE, most=3)
    TELLING.append((some_checker(CHANCE, machine[0], machine[1] if CHANCE.random() < 0.8 else 'ab', '01', 12), machine))
for checker in CHECKERS[4:]:
    for row in checker[3][::3]:
        less = (*checker[:3], tuple(one for one in checker[3] if one != row))
        TELLING.append((less, checker_machine(checker, 'ab')))


class TellingTest(unittest.TestCase):
    def test_checker_machine(self):
        for checker in CHECKERS:
            for labels in ('a', 'ab', 'bc'):
                machine = checker_machine(checker, labels)
                self.assertTrue(is_machine(machine) and ref_machine(machine))
                same(self, machine[:2], (checker[0], labels))
                trees = small_trees(checker[0], labels)
                trees = CHANCE.sample(trees, min(len(trees), 50)) + [some_tree(CHANCE, checker[0], labels, 12)]
                for tree in trees:
                    self.assertEqual(holds(machine, tree), count_noted(checker, tree) > 0)
            used = ''.join(sorted({text[0] for text in [*checker[1], *checker[2], *checker[3]]} | {'a'}))
            used = ''.join(sorted({*used, *[sign for text in checker[3] for sign in text if sign.isalpha()]}))
            self.assertIs(tells(checker, checker_machine(checker, used)), True)
        same(self, tells(PARITY, checker_machine(checker=PARITY, labels='ab')), True)

    def test_tell_fault(self):
        nones, words = 0, set()
        for checker, machine in TELLING:
            tops = set(checker[1])
            faults = [tree for (tags, standing), tree in product_trees(checker, machine).items()
                      if bool(tags & tops) != (standing in machine[5])]
            fault = min(faults, key=key) if faults else None
            same(self, tell_fault(checker, machine), fault)
            self.assertIs(tells(checker, machine), fault is None)
            nones += fault is None
            if fault is not None:
                words.add((holds(machine, fault), len(fault)))
                self.assertNotEqual(holds(machine, fault), count_noted(checker, fault) > 0)
            for tree in small_trees(checker[0], machine[1])[:60]:
                if holds(machine, tree) != (noted(checker, tree) is not None):
                    self.assertTrue(key(fault) <= key(tree))
                    break
        self.assertTrue(nones > 20 and {5, 6} & {size for _, size in words}, (nones, words))
        same(self, tell_fault(checker=PARITY, machine=NONE), 'b')
        same(self, tells(checker=PARITY, machine=EVEN), True)

    def test_labels_of_one_alone(self):
        # c is a label of the checker alone, d one of the machine alone.
        checker = (1, ('c0',), ('c0',), ())
        same(self, tell_fault(checker, NONE), 'c')
        same(self, tell_fault(checker, (1, 'c', 1, (0,), ((0,),), (0,))), 'Cc')
        same(self, tell_fault((1, (), (), ()), (1, 'd', 2, (0,), ((1, 1),), (1,))), 'Dd')
        mixed = (1, ('c0',), ('d0',), ('c0d0',))
        same(self, tell_fault(mixed, (1, 'd', 1, (0,), ((0,),), ())), 'Cd')
        same(self, tell_fault(mixed, (1, 'cd', 1, (0, 0), ((0,), (0,)), ())), 'Cd')

    def test_machines_of_checkers(self):
        for checker in CHECKERS[:40]:
            machine = checker_machine(checker, 'ab')
            for row in CHANCE.sample(checker[3], min(len(checker[3]), 3)):
                less = (Checker(*checker) - row).form
                fault = tell_fault(less, machine)
                if fault is not None:
                    self.assertTrue(set(fault.lower()) - {'a', 'b'} or holds(machine, fault))

    def test_more_notes(self):
        """[85]"""
        for checker, tree in cases(CHECKERS[:30], 200):
            tags = [label + note for label in 'ab' for note in '012']
            more = (checker[0], tuple(sorted({*checker[1], 'a0'})), tuple(sorted({*checker[2], 'b1'})),
                    tuple(sorted({*checker[3], ''.join(CHANCE.choice(tags) for _ in range(checker[0] + 1))})))
            for notes in right_notes(checker, tree):
                self.assertIs(is_noted(more, tree, notes), True)

    def test_refused(self):
        for thing in ANY:
            if not ref_checker(thing):
                refuses(self, 'checker', checker_machine, thing, None)
                refuses(self, 'checker', tells, thing, None)
                refuses(self, 'checker', tell_fault, thing, None)
            if not ref_machine(thing) or thing[0] != 1:
                refuses(self, 'machine', tells, PARITY, thing)
                refuses(self, 'machine', tell_fault, PARITY, thing)
            if not ref_lot(thing) or thing == '':
                refuses(self, 'labels', checker_machine, PARITY, thing)


if __name__ == "__main__":
    unittest.main()
