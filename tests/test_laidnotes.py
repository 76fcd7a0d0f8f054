"""Notes laid from below and from above, turned machines, and tables as checkers ([103] to [106])."""

import itertools
import random
import unittest

from markladder.abovenotes import above_checker, above_notes, above_numbers
from markladder.belownotes import below_checker, below_notes, below_numbers, is_from_below
from markladder.choices import with_choice
from markladder.fewest import fewest_notes, numbers_enough
from markladder.goodrows import root_of
from markladder.joining import least_machine, parting
from markladder.noting import count_noted, is_noted, noted
from markladder.places import bare, dressed
from markladder.tablenotes import shapes_machine, table_checker
from markladder.telling import tells
from markladder.turning import turned_checker, turned_machine, turned_notes, turned_tree
from markladder.walkers import below_lots
from closures import (BY_OUTER, LIMITED, TURNED_RAFT, UNCLEAR, accepts_of, bundles_of, chosen, closed_at, greatest_of,
                      inner_at, outer_at, some_bundles, tags_of_row, tells_by)
from machines import (ALL, CHECKERS, GAP, NONE, ONLY_A, RAFT, holds, leaf, met_with, run, small_trees, some_checker,
                      some_tree, step, trees_up_to)
from oracles import marks_in, places_in, some_tables
from values import (ANY, DIST, EVEN, LOST, PARITY, SIDED, THREES, TURNS, TWINS, UNLIKE, ref_checker, ref_machine, ref_notes,
                    ref_table, ref_tree, refuses, same)

CHANCE = random.Random(230)
SOME = LIMITED + [RAFT]
ROWS = [machine for machine in SOME if machine[0] == 1]


def with_property(machine):
    """Some trees with the property, small ones and greater ones."""
    trees = small_trees(machine[0], machine[1]) + [some_tree(CHANCE, machine[0], machine[1], 12) for _ in range(20)]
    found = [tree for tree in trees if holds(machine, tree)]
    return CHANCE.sample(found, min(len(found), 12))


def parts_of(machine, tree):
    """For each place its label and the standing of its part."""
    return [(tree[place].lower(), run(machine, told['part'])) for place, told in enumerate(places_in(machine[0], tree))]


class BelowTest(unittest.TestCase):
    def test_numbers_and_checker(self):
        for machine in SOME:
            inner = {label: inner_at(machine, label) for label in machine[1]}
            same(self, below_numbers(machine), tuple(len(inner[label]) for label in machine[1]))
            bundles = bundles_of(machine)
            tags = [tag for tag in bundles if bundles[tag] in inner[tag[0]]]
            same(self, below_checker(machine), chosen(greatest_of(machine), tags))
            self.assertTrue(tells_by(below_checker(machine), machine))
        same(self, below_numbers(machine=RAFT), (4, 3))
        same(self, [below_numbers(NONE), below_checker(NONE)], [(0, 0), (1, (), (), ())])
        same(self, below_numbers(ONLY_A), (1, 0))
        same(self, below_checker(machine=GAP), with_choice(GAP, ('a1', 'a2', 'a3')))

    def test_below_notes(self):
        for machine in SOME:
            bundles = bundles_of(machine)
            for tree in with_property(machine):
                notes = below_notes(machine, tree)
                told = ''
                for label, standing in parts_of(machine, tree):
                    fitting = [tag for tag in bundles if tag[0] == label and standing in bundles[tag]]
                    told += min(fitting, key=lambda tag: len(bundles[tag]))[1]
                same(self, notes, told)
                self.assertIs(is_noted(below_checker(machine), tree, notes), True)
        same(self, below_notes(machine=GAP, tree='AAAa'), '3321')
        same(self, below_notes(EVEN, 'AaB'.replace('aB', 'Ba')), below_notes(EVEN, 'ABa'))
        same(self, below_notes(EVEN, 'B' * 39 + 'b'), '0' * 40)

    def test_refused(self):
        for thing in ANY:
            if not ref_machine(thing):
                refuses(self, 'machine', below_numbers, thing)
                refuses(self, 'machine', below_checker, thing)
                refuses(self, 'machine', below_notes, thing, None)
                refuses(self, 'machine', is_from_below, PARITY, thing)
            elif thing[0] == 2:
                refuses(self, 'machine', is_from_below, PARITY, thing)
            if not ref_checker(thing):
                refuses(self, 'checker', is_from_below, thing, None)
            if not ref_tree(1, thing) or thing.lower().count('a') % 2 or set(thing.lower()) - {*'ab'}:
                refuses(self, 'tree', below_notes, EVEN, thing)
                refuses(self, 'tree', above_notes, EVEN, thing)
        for tree in ('a', 'Ab', 'c', 'Bc', 'Aab', 'AA', ''):
            refuses(self, 'tree', below_notes, machine=EVEN, tree=tree)
            refuses(self, 'tree', above_notes, machine=EVEN, tree=tree)
        refuses(self, 'machine', is_from_below, checker=PARITY, machine=TWINS)


def live_at(machine, label):
    """The standings met at the label that some surrounding lets."""
    return {q for q in met_with(machine, label) if any(q in bundle for bundle in accepts_of(machine))}


def pairs_for(checker, machine):
    tags = sorted({tag for text in [*checker[1], *checker[2], *checker[3]] for tag in tags_of_row(text)})
    return [(tag, q) for tag in tags if tag[0] in machine[1] for q in sorted(live_at(machine, tag[0]))]


def are_closed(checker, machine, pairs):
    """Whether what is put together of places with these pairs can be let with one of them again."""
    live = {label: live_at(machine, label) for label in machine[1]}
    fits = lambda tag, q: (tag, q) in pairs and (q not in machine[5] or tag in checker[1])
    for label in machine[1]:
        q = leaf(machine, label)
        if q in live[label] and not any(fits(tag, q) for tag in checker[2] if tag[0] == label):
            return False
        for below in itertools.product(pairs, repeat=machine[0]):
            q = step(machine, label, [standing for _, standing in below])
            end = ''.join(tag for tag, _ in below)
            tops = [row[:2] for row in checker[3] if row[2:] == end and row[0] == label]
            if q in live[label] and not any(fits(tag, q) for tag in tops):
                return False
    return True


def small_fault(checker, machine, most):
    """Whether already for trees of at most so many signs no notes can be told by parts: all ways are tried."""
    trees = [tree for tree in trees_up_to(machine[0], machine[1], most) if run(machine, tree) in live_at(machine, tree[0].lower())]
    parts = {tree: [places_in(machine[0], tree)[child]['part'] for child in places_in(machine[0], tree)[0]['children']]
             for tree in trees}

    def goes_on(index, told):
        if index == len(trees):
            return True
        tree = trees[index]
        label = tree[0].lower()
        if parts[tree]:
            end = ''.join(told[part] for part in parts[tree])
            tags = [row[:2] for row in checker[3] if row[2:] == end and row[0] == label]
        else:
            tags = [tag for tag in checker[2] if tag[0] == label]
        return any(goes_on(index + 1, {**told, tree: tag}) for tag in tags
                   if not holds(machine, tree) or tag in checker[1])
    return not goes_on(0, {})


class FromBelowTest(unittest.TestCase):
    def test_is_from_below(self):
        seen = {True: 0, False: 0}
        for machine, checker in self.cases():
            pairs = pairs_for(checker, machine)
            if len(pairs) <= 7:
                told = any(are_closed(checker, machine, some) for some in some_bundles(pairs))
                self.assertIs(is_from_below(checker, machine), told)
                seen[told] += len(pairs) > 1
        self.assertTrue(min(seen.values()) > 60, seen)
        same(self, is_from_below(checker=below_checker(GAP), machine=GAP), True)
        same(self, is_from_below(with_choice(GAP, ('a1', 'a2')), GAP), False)

    def cases(self):
        for machine in SOME:
            if max(len(closed_at(machine, label)) for label in machine[1]) < 5:
                yield machine, below_checker(machine)
                bundles = sorted(bundles_of(machine))
                choices = some_bundles(bundles)
                for tags in CHANCE.sample(choices, min(len(choices), 5)):
                    yield machine, chosen(greatest_of(machine), tags)
                yield machine, some_checker(CHANCE, machine[0], machine[1], '01', 20)

    def test_by_trees(self):
        """What is False has no notes for some small trees already."""
        found = 0
        for machine, checker in self.cases():
            if machine[0] == 1 and len(machine[1]) < 3 and len(pairs_for(checker, machine)) <= 8:
                fault = small_fault(checker, machine, 5 if len(machine[1]) == 1 else 4)
                if fault:
                    self.assertIs(is_from_below(checker, machine), False)
                    found += 1
        self.assertTrue(found > 30, found)
        self.assertTrue(small_fault(with_choice(GAP, ('a1', 'a2')), GAP, 5))

    def test_nothing_to_be_told(self):
        # No tree has the property, so that any notes will do.
        same(self, is_from_below((1, (), (), ()), NONE), True)
        same(self, is_from_below(PARITY, NONE), True)
        same(self, is_from_below((1, (), (), ()), EVEN), False)
        # The one tag is let everywhere, but at the top of no tree.
        everywhere = (1, (), ('a0', 'b0'), ('a0a0', 'a0b0', 'b0a0', 'b0b0'))
        same(self, is_from_below(everywhere, ALL), False)
        same(self, is_from_below((1, ('a0', 'b0'), *everywhere[2:]), ALL), True)
        same(self, is_from_below((1, ('a0',), *everywhere[2:]), ALL), False)
        # Beside the property there are more right notes: those told by parts need not tell the machine.
        same(self, is_from_below((1, ('a0', 'b0'), *everywhere[2:]), EVEN), True)

    def test_twelve_pairs(self):
        machine = (1, 'a', 4, (0,), ((1, 2, 3, 3),), (2,))
        tags = ['a0', 'a1', 'a2', 'a3']
        rows = tuple(sorted(one + other for one in tags for other in tags if one != other))
        checker = (1, ('a2', 'a3'), ('a0', 'a1'), rows)
        self.assertEqual(len(pairs_for(checker, machine)), 12)
        same(self, is_from_below(checker, machine), True)
        same(self, is_from_below((1, ('a2', 'a3'), ('a0', 'a1'), ('a0a0', 'a1a0', 'a1a1', 'a2a0', 'a3a0')), machine), True)
        same(self, is_from_below((1, ('a2', 'a3'), ('a0', 'a1'), ('a1a0', 'a1a1', 'a2a0', 'a3a0')), machine), False)

    def test_consequences(self):
        """[106]"""
        for machine in SOME:
            self.assertIs(tells(below_checker(machine), machine), True)
            if max(len(closed_at(machine, label)) for label in machine[1]) < 5:
                self.assertIs(is_from_below(below_checker(machine), machine), True)
            least = least_machine(machine)
            same(self, below_numbers(machine), tuple(len(live_at(least, label)) for label in least[1]))
            choices = some_bundles(sorted(bundles_of(machine)))
            for tags in CHANCE.sample(choices, min(len(choices), 8)):
                checker = chosen(greatest_of(machine), tags)
                if len(pairs_for(checker, machine)) <= 12 and tells_by(checker, machine) and is_from_below(checker, machine):
                    counts = [sum(tag[0] == label for tag in tags) for label in machine[1]]
                    self.assertTrue(all(low <= count for low, count in zip(below_numbers(machine), counts)))


class AboveTest(unittest.TestCase):
    def test_numbers_and_checker(self):
        for machine in ROWS:
            outer = {label: outer_at(machine, label) for label in machine[1]}
            same(self, above_numbers(machine), tuple(len(outer[label]) for label in machine[1]))
            bundles = bundles_of(machine)
            tags = [tag for tag in bundles if bundles[tag] in outer[tag[0]]]
            same(self, above_checker(machine), chosen(greatest_of(machine), tags))
            self.assertTrue(tells_by(above_checker(machine), machine))
        same(self, above_numbers(machine=RAFT), (3, 3))
        same(self, above_checker(machine=GAP), with_choice(GAP, ('a0', 'a1', 'a2')))
        same(self, [above_numbers(NONE), above_checker(NONE)], [(0, 0), (1, (), (), ())])

    def test_above_notes(self):
        for machine in ROWS:
            bundles = {(tag[0], bundle): tag[1] for tag, bundle in bundles_of(machine).items()}
            for tree in with_property(machine):
                told = ''
                for place, sign in enumerate(tree):
                    let = [q for q in met_with(machine, sign.lower()) if over(machine, tree[:place], q)]
                    told += bundles[sign.lower(), tuple(let)]
                same(self, above_notes(machine, tree), told)
                self.assertIs(is_noted(above_checker(machine), tree, told), True)
        same(self, above_notes(machine=GAP, tree='AAAa'), '1200')
        same(self, above_notes(EVEN, 'B' * 39 + 'b'), '0' * 40)

    def test_from_the_labels_above_alone(self):
        for machine in ROWS:
            told = {}
            for tree in [tree for tree in small_trees(1, machine[1]) if holds(machine, tree)][:200]:
                for place, note in enumerate(above_notes(machine, tree)):
                    self.assertEqual(told.setdefault(tree[:place + 1].lower(), note), note)

    def test_refused(self):
        for thing in ANY:
            if not ref_machine(thing) or thing[0] == 2:
                refuses(self, 'machine', above_numbers, thing)
                refuses(self, 'machine', above_checker, thing)
                refuses(self, 'machine', above_notes, thing, None)
        refuses(self, 'machine', above_notes, TWINS, 'a')
        refuses(self, 'machine', above_numbers, machine=TWINS)


def over(machine, above, standing):
    """Whether the row of these labels over a standing makes a good one."""
    for sign in reversed(above):
        standing = step(machine, sign.lower(), (standing,))
    return standing in machine[5]


class TurningTest(unittest.TestCase):
    def test_trees_and_notes(self):
        same(self, [turned_tree(tree) for tree in ('a', 'Ab', 'ABc', 'AABa')], ['a', 'Ba', 'CBa', 'ABAa'])
        same(self, turned_notes('ABc', '01?'), '?10')
        same(self, [turned_notes(tree='Ab', notes='??'), turned_tree(tree='Zz')], ['??', 'Zz'])
        for tree in small_trees(1, 'abc'):
            same(self, turned_tree(turned_tree(tree)), tree)
            self.assertEqual(turned_tree(tree).lower(), tree.lower()[::-1])

    def test_checkers(self):
        same(self, turned_checker(checker=PARITY), (1, ('a1', 'b0'), ('a0', 'b0'), ('a0a1', 'a0b0', 'a1a0', 'a1b1', 'b0a1', 'b0b0', 'b1a0', 'b1b1')))
        for checker in CHECKERS:
            if checker[0] == 1:
                turned = turned_checker(checker)
                self.assertTrue(ref_checker(turned))
                same(self, turned_checker(turned), checker)
                for tree in CHANCE.sample(small_trees(1, 'ab'), 25):
                    other = turned_tree(tree)
                    same(self, count_noted(turned, other), count_noted(checker, tree))
                    notes = noted(checker, tree)
                    if notes is not None:
                        self.assertIs(is_noted(turned, other, turned_notes(tree, notes)), True)

    def test_machines(self):
        for machine in ROWS + [TURNED_RAFT]:
            turned = turned_machine(machine)
            self.assertTrue(ref_machine(turned))
            same(self, turned, least_machine(turned))
            for tree in small_trees(1, machine[1])[:300]:
                self.assertEqual(holds(turned, tree), holds(machine, turned_tree(tree)))
            same(self, turned_machine(turned), least_machine(machine))
            same(self, parting(turned_machine(turned), machine), None)
        same(self, turned_machine(machine=EVEN), least_machine(EVEN))
        same(self, turned_machine(NONE), (1, 'ab', 1, (0, 0), ((0,), (0,)), ()))
        # The top alone tells: turned, the place below all others does.
        same(self, turned_machine((1, 'ab', 2, (0, 1), ((0, 0), (1, 1)), (0,))), (1, 'ab', 2, (0, 1), ((0, 1), (0, 1)), (0,)))

    def test_consequences(self):
        """[106]"""
        for machine in ROWS:
            turned = turned_machine(machine)
            same(self, above_numbers(machine), below_numbers(turned))
            same(self, below_numbers(machine), above_numbers(turned))
            if len(bundles_of(machine)) <= 6 or machine in BY_OUTER + UNCLEAR:
                same(self, numbers_enough(turned), numbers_enough(machine))
            choices = some_bundles(sorted(bundles_of(machine)))
            for tags in CHANCE.sample(choices, min(len(choices), 6)):
                checker = chosen(greatest_of(machine), tags)
                self.assertIs(tells(turned_checker(checker), turned), tells_by(checker, machine))

    def test_refused(self):
        for thing in ANY:
            if not ref_tree(1, thing):
                refuses(self, 'tree', turned_tree, thing)
                refuses(self, 'tree', turned_notes, thing, None)
            if not ref_notes(thing) or len(thing) != 3:
                refuses(self, 'notes', turned_notes, 'ABa', thing)
            if not ref_checker(thing) or thing[0] != 1:
                refuses(self, 'checker', turned_checker, thing)
            if not ref_machine(thing) or thing[0] != 1:
                refuses(self, 'machine', turned_machine, thing)
        for tree in ('Aab', 'aA', 'A', ''):
            refuses(self, 'tree', turned_tree, tree=tree)


TABLES = [table for table in (TURNS, UNLIKE, DIST, SIDED, LOST, *some_tables(231, 60, 'abc'), *some_tables(232, 20, 'abcd'))
          if table[0] == 2]
TEN = (2, tuple(one + one * 2 for one in 'abcdefghij'))


def can_be_marked(table, shape):
    tops = {}
    for place, told in reversed(list(enumerate(places_in(table[0], shape)))):
        choices = itertools.product(*[tops[child] for child in told['children']])
        rows = {row for below in choices for row in table[1] if list(row[1:]) == sorted(below)}
        tops[place] = {row[0] for row in rows} if told['children'] else set(marks_in(table))
    return tops[0] != set()


class TableNotesTest(unittest.TestCase):
    def test_table_checker(self):
        for table in TABLES:
            marks = sorted(marks_in(table))
            name = lambda text: ''.join('a' + str(marks.index(mark)) for mark in text)
            tags = tuple(name(mark) for mark in marks)
            rows = {name(row[0] + ''.join(below)) for row in table[1] for below in itertools.permutations(row[1:])}
            same(self, table_checker(table), (2, tags, tags, tuple(sorted(rows))))
        same(self, table_checker(table=TURNS)[3], ('a0a1a1', 'a1a0a0'))
        same(self, table_checker((2, ('xyz',))), (2, ('a0', 'a1', 'a2'), ('a0', 'a1', 'a2'), ('a0a1a2', 'a0a2a1')))
        same(self, len(table_checker(TEN)[1]), 10)

    def test_shapes_machine(self):
        for table in TABLES:
            machine = shapes_machine(table)
            self.assertTrue(ref_machine(machine) and machine[:2] == (2, 'a'))
            same(self, machine, least_machine(machine))
            for tree in small_trees(2, 'a')[:40]:
                shape = bare(tree)
                self.assertEqual(holds(machine, tree), can_be_marked(table, shape))
                same(self, dressed(shape, 'a'), tree)
        same(self, shapes_machine(table=LOST)[2], 4)
        same(self, [shapes_machine(TURNS), shapes_machine(UNLIKE)], [(2, 'a', 1, (0,), ((0,),), (0,))] * 2)

    def test_consequences(self):
        """[106]"""
        below, least = set(), set()
        for table in TABLES:
            machine, checker = shapes_machine(table), table_checker(table)
            self.assertIs(tells(checker, machine), True)
            if len(closed_at(machine, 'a')) <= 6:
                fewest = fewest_notes(machine)
                self.assertTrue(fewest <= len(marks_in(table)))
                self.assertEqual(fewest == 1, root_of(table) != 0)
                least.add(fewest)
            if root_of(table) != 0:
                told = is_from_below(checker, machine)
                self.assertIs(told, below_lots(table) != ())
                below.add(told)
        self.assertEqual((below, {1, 2} <= least), ({True, False}, True))
        same(self, fewest_notes(shapes_machine(LOST)), 3)

    def test_refused(self):
        eleven = (2, tuple(one + one * 2 for one in 'abcdefghijk'))
        for thing in (*ANY, THREES, eleven, (2, ('abk', 'cde', 'fgh', 'ijl'))):
            if not ref_table(thing) or thing[0] != 2 or len(marks_in(thing)) > 10:
                refuses(self, 'table', table_checker, thing)
                refuses(self, 'table', shapes_machine, thing)
        refuses(self, 'table', table_checker, table=eleven)


if __name__ == "__main__":
    unittest.main()
