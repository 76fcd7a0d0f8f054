"""What the document promises over several parts of the package together ([1], [2], [14], [15])."""

import itertools
import random
import unittest

from markladder.belownotes import below_checker, below_notes, below_numbers, is_from_below
from markladder.abovenotes import above_checker, above_notes, above_numbers
from markladder.bitcodes import bits_of, looks_of
from markladder.bitmarks import lets_bits, marking_by
from markladder.choices import is_enough, least_choices, with_choice
from markladder.coverchecker import lets_cover
from markladder.coverchoices import cover_numbers, cover_tags
from markladder.coverpapers import cover_paper
from markladder.fewest import fewest_in_all, fewest_notes, numbers_enough
from markladder.goodrows import root_of
from markladder.greatest import greatest, tags_of
from markladder.hardshapes import hard_shape
from markladder.helpers import Helper
from markladder.joining import both, least_machine, parting
from markladder.looks import lets_looks, looks_paper
from markladder.marking import filled, is_right, tops_by
from markladder.nevers import lets_never, never_paper
from markladder.notebits import bits_say, note_bits, note_width, notes_by, why_no
from markladder.noting import is_noted, noted
from markladder.objects import Checker, Machine, Table
from markladder.places import dressed
from markladder.readings import checker_read, machine_read
from markladder.rings import lets_ring, ring_of, ring_paper
from markladder.running import has
from markladder.rungpapers import lets_rung, rung_paper
from markladder.rungs import is_at_least, rung_of
from markladder.tablenotes import shapes_machine, table_checker
from markladder.tablesums import at_once, side_by_side
from markladder.tagleading import is_tag_leading, leading_tags
from markladder.telling import checker_machine, tells
from markladder.texts import checker_line, machine_line
from markladder.turning import turned_checker, turned_machine, turned_notes, turned_tree
from markladder.walkers import alike_marks, are_side_lots, below_lots, is_below_lot, side_lots, side_marking, walk_marking
from markladder.woods import Wood, replayed
from markladder.woodtexts import log_lines, read_log
from closures import LIMITED
from machines import RAFT, holds, small_trees
from oracles import marks_in, shapes_up_to, some_shape, some_tables
from values import DIST, EVEN, LOST, PARITY, SIDED, STEPS, THREES, TURNS, TWINS, UNLIKE, same

CHANCE = random.Random(280)
TABLES = [TURNS, UNLIKE, DIST, SIDED, LOST, STEPS, THREES, *some_tables(281, 60, 'abc'), *some_tables(282, 20, 'abcd')]


class TablesTest(unittest.TestCase):
    def test_the_ladder(self):
        """(G2), and the papers of (G1)."""
        rungs = set()
        for table in TABLES:
            root, below, sides = root_of(table), below_lots(table), side_lots(table)
            for mark in alike_marks(table):
                self.assertTrue(is_below_lot(table, mark))
            for lot in below:
                self.assertTrue(are_side_lots(table, (lot,) * table[0]))
            self.assertTrue(sides != () or below == ())
            self.assertTrue(sides == () or root is None)
            ring = ring_of(table)
            self.assertTrue(ring is not None or below == ())
            self.assertTrue(ring is None or root != 0)
            same(self, lets_never(table, never_paper(table)), root == 0)
            same(self, lets_ring(table, ring_paper(table)), ring is not None)
            same(self, lets_rung(table, rung_paper(table)), rung_of(table))
            rungs.add(rung_of(table))
            if root != 0:
                for shape in shapes_up_to(table[0], 7):
                    self.assertIsNotNone(filled(table, shape, '?' * len(shape)))
            else:
                height = len(marks_in(table))
                same(self, tops_by(table, full(table[0], height), '?' * len(full(table[0], height))), '')
        self.assertTrue({'0', '1', 'log', 'sides', 'below', 'alike'} <= rungs, rungs)

    def test_two_tables(self):
        """(G3)"""
        small = [table for table in (TURNS, SIDED, (2, ('aaa', 'abb')), *some_tables(283, 30, 'ab')) if table[0] == 2]
        for one, other in [CHANCE.sample(small, 2) for _ in range(50)]:
            rungs = rung_of(one), rung_of(other)
            lower, higher = rungs if is_at_least(rungs[1], rungs[0]) else rungs[::-1]
            rings = ring_of(one) is not None, ring_of(other) is not None
            together, beside = at_once(one, other), side_by_side(one, other)
            same(self, [rung_of(together), ring_of(together) is not None], [lower, all(rings)])
            same(self, [rung_of(beside), ring_of(beside) is not None], [higher, any(rings)])
            same(self, lets_rung(together, rung_paper(together)), lower)
            same(self, lets_rung(beside, rung_paper(beside)), higher)

    def test_one_bit(self):
        """(G4): each place tells its own mark by what it sees around it."""
        for table in TABLES[:20]:
            for shape in (some_shape(CHANCE, table[0], 14), ('+' + '.' * (table[0] - 1)) * 20 + '.'):
                marking = filled(table, shape, '?' * len(shape))
                if marking is not None:
                    bits = bits_of(table, shape, marking, 0)
                    right = lets_bits(table, shape, bits, 0)
                    self.assertTrue(is_right(table, shape, right) and right == marking_by(table, shape, bits, 0))
                    one = Helper(table, 0)
                    same(self, one.sight_now, looks_of(table, 0))
                    told = ''.join(one.seen(one.view(shape, bits, place)) for place in range(len(shape)))
                    same(self, told, right)

    def test_walkers_and_woods(self):
        for table in TABLES[:20]:
            wood = Wood(table, '.')
            for place in (0, 1, 1, 2):
                if wood.barred(('sprout', place)) is None:
                    wood.sprout(place)
            for kind, lots, lay in (('below', below_lots(table), walk_marking), ('sides', side_lots(table), side_marking)):
                same(self, wood.barred(('walk', kind)), None if lots else 'none')
                if lots:
                    wood.walk(kind)
                    same(self, wood.walked_now, lay(table, lots[0], wood.shape_now))
                    # What a walker lays a helper can tell.
                    wood.helper(wood.walked_now)
                    self.assertIsNone(wood.cry_now)
                    self.assertTrue(is_right(table, wood.shape_now, wood.laid_now))
            lines = log_lines(wood.log())
            kept = list(lines)
            self.assertTrue(replayed(read_log(lines)) == wood)
            same(self, lines, kept)
            lines.clear()
            same(self, log_lines(wood.log()), kept)

    def test_what_is_told_is_taken(self):
        shape = hard_shape(2, 2, 2, 1)
        for table in (UNLIKE, STEPS, at_once(TURNS, SIDED), side_by_side(TURNS, UNLIKE), Table(*STEPS).form, (Table(*UNLIKE) - 'abb').form):
            marking = filled(table, shape, '?' * len(shape))
            if marking is not None:
                bits = bits_of(table, shape, marking, 2)
                self.assertTrue(is_right(table, shape, lets_bits(table, shape, bits, 2)))


def full(many, height):
    return '.' if height == 0 else '+' + full(many, height - 1) * many


SOME = [*LIMITED[::3], RAFT]


class MachinesTest(unittest.TestCase):
    def test_values_for_children(self):
        """(G5)"""
        for machine in SOME:
            tags = tags_of(machine)
            numbers = cover_numbers(machine)
            for some in numbers_enough(machine):
                self.assertTrue(any(all(low <= one <= high for one, (low, _, high) in zip(few, numbers)) for few in numbers_enough(machine)))
                self.assertTrue(all(one <= sum(tag[0] == label for tag in tags) for one, label in zip(some, machine[1])))
            same(self, fewest_notes(machine), min(max(some) for some in numbers_enough(machine)))
            least = least_choices(machine)
            self.assertTrue(fewest_in_all(machine)[1] in least and is_enough(machine, least[-1]))
            for kind in ('inner', 'outer')[:3 - machine[0]]:
                told = lets_cover(machine, cover_paper(machine, kind))
                chosen = cover_tags(machine, kind)
                same(self, tuple(sum(tag[0] == label for tag in chosen) for label in machine[1]), tuple(high for _, high in told))
                self.assertTrue(is_enough(machine, chosen))
                self.assertTrue(any(set(tags) <= set(chosen) for tags in least))
            below = below_checker(machine)
            self.assertTrue(all(inner <= count for (_, _, inner), count in zip(numbers, below_numbers(machine))))
            if sum(below_numbers(machine)) < 5:
                self.assertIs(is_from_below(below, machine), True)
            if machine[0] == 1:
                turned = turned_machine(machine)
                same(self, [above_numbers(machine), tells(turned_checker(above_checker(machine)), turned)], [below_numbers(turned), True])

    def test_from_machine_to_bits(self):
        """What one part tells is taken by the next one as it is."""
        seen = 0
        for machine in SOME:
            machine = machine_read(machine_line(Machine(*least_machine(both(machine, machine))).form))
            checker = checker_read(checker_line(Checker(*greatest(machine)).form))
            few = with_choice(machine, fewest_in_all(machine)[1])
            self.assertTrue(is_tag_leading(few, checker, leading_tags(few, machine)))
            same(self, parting(checker_machine(few, machine[1]), machine), None)
            for tree in CHANCE.sample(small_trees(machine[0], machine[1]), 10):
                for one in (checker, few, below_checker(machine)):
                    notes = noted(one, tree)
                    self.assertEqual(notes is not None, holds(machine, tree))
                    if notes is not None:
                        bits = note_bits(one, tree, notes, 1)
                        same(self, bits_say(one, tree, bits, 1), ())
                        self.assertTrue(is_noted(one, tree, notes_by(one, tree, bits, 1)))
                        seen += 1
                if has(machine, tree):
                    self.assertTrue(is_noted(below_checker(machine), tree, below_notes(machine, tree)))
                    if machine[0] == 1:
                        notes = above_notes(machine, tree)
                        self.assertTrue(is_noted(turned_checker(checker), turned_tree(tree), turned_notes(tree, notes)))
            depth = 1
            same(self, lets_looks(machine, depth, looks_paper(machine, depth)), looks_paper(machine, depth)[0] == 'closed')
        self.assertTrue(seen > 100)

    def test_from_table_to_notes(self):
        for table in [table for table in TABLES[:30] if table[0] == 2]:
            checker = table_checker(table)
            marks = sorted(marks_in(table))
            machine = shapes_machine(table)
            for shape in shapes_up_to(2, 7):
                notes = noted(checker, dressed(shape, 'a'))
                marking = filled(table, shape, '?' * len(shape))
                same(self, notes, marking and ''.join(str(marks.index(mark)) for mark in marking))
                self.assertEqual(has(machine, dressed(shape, 'a')), marking is not None)

    def test_notes_are_checked_by_what_is_near(self):
        """(G4): why a place says no does not depend on what is further off than 2L + 4B + 1 steps."""
        reasons = set()
        for checker, labels in ((PARITY, 'ab'), (greatest(RAFT), 'ab')):
            width = note_width(checker)
            period = 2 * width + 3
            sight = 2 * period + 4 * width + 1
            for _ in range(60):
                near = some_row(labels, sight + 1 + sight)
                verdicts = set()
                for _ in range(5):
                    above = some_row(labels, period * CHANCE.randint(3, 6))
                    labels_now, bits = zip(*above, *near, *some_row(labels, CHANCE.randint(1, 20)))
                    tree = ''.join(labels_now[:-1]).upper() + labels_now[-1]
                    turns = [place % period for place in range(len(tree))]
                    bits = ''.join(laid_bit(bit, turn, width) for bit, turn in zip(bits, turns))
                    verdicts.add(why_no(checker, tree, bits, 0, len(above) + sight))
                self.assertEqual(len(verdicts), 1)
                reasons |= verdicts
        self.assertTrue({None, 'region', 'turn'} <= reasons, reasons)


def some_row(labels, size):
    """Labels and bits, None for one that is not as its turn asks for."""
    return [(CHANCE.choice(labels), CHANCE.choice('01') if CHANCE.random() < 0.97 else None) for _ in range(size)]


def laid_bit(bit, turn, width):
    if turn % 2 and 2 < turn < 2 * width + 2:
        return bit or '0'
    return '01'[(turn < 2) == (bit is not None)]


class OverviewTest(unittest.TestCase):
    def test_each_table_has_a_rung(self):
        """[1]: tables by their rungs, with a paper for each."""
        for table, rung in ((LOST, '0'), (TURNS, '1'), (DIST, 'log'), (SIDED, 'sides'), (UNLIKE, 'below'), ((2, ('aaa',)), 'alike')):
            same(self, [rung_of(table), lets_rung(table, rung_paper(table))], [rung, rung])

    def test_results_depend_on_arguments_alone(self):
        """[2]: called again, and after other calls, they tell the same; arguments by position or by name."""
        told = [repr(call()) for call in CALLS]
        for call in reversed(CALLS):
            call()
        self.assertEqual([repr(call()) for call in CALLS], told)

    def test_integers_and_bools(self):
        for one, other in itertools.product((True, False), (EVEN, TWINS)):
            self.assertNotEqual(repr(one), repr(other))
            wood = Wood(UNLIKE, '+..')
            self.assertEqual(wood.barred(('bit', one)), 'shape')
            self.assertEqual(wood.barred(('bit', int(one))), None)


CALLS = [lambda: greatest(RAFT), lambda: cover_paper(RAFT, 'outer'), lambda: numbers_enough(RAFT), lambda: least_choices(EVEN),
         lambda: looks_paper(RAFT, 1), lambda: shapes_machine(LOST), lambda: below_checker(machine=RAFT), lambda: turned_machine(RAFT),
         lambda: bits_say(checker=PARITY, tree='BBBBBABBBa', bits='1101011000', gap=0), lambda: rung_paper(UNLIKE),
         lambda: log_lines(Wood(TURNS, '.').log()), lambda: leading_tags(checker=PARITY, machine=EVEN)]


if __name__ == "__main__":
    unittest.main()
