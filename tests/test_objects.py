"""Tables, machines and checkers as objects ([29], [30])."""

import random
import unittest

from markladder.errors import InvalidPaper, InvalidText, NotUsable
from markladder.objects import Checker, Machine, Table
from markladder.tableparts import marks_of, rows_of
from markladder.texts import checker_line, machine_line, table_line
from oracles import all_rows, some_lots, some_tables
from test_lines import some_checker, some_machine
from test_places import some_tree
from values import (ANY, DIST, EVEN, PARITY, STEPS, TABLES, TWINS, UNLIKE, faulty, ref_mark, ref_mark_of, ref_number,
                    ref_table, ref_tree, refuses, same)


def plus(one, other):
    return one + other


def minus(one, other):
    return one - other


def cut(one, other):
    return one & other


def item(one, at):
    return one[at]


class TableTest(unittest.TestCase):
    def test_parts(self):
        for form in [*TABLES, *some_tables(9, 30, 'abcde')]:
            one = Table(*form)
            same(self, one.form, form)
            same(self, (one.many_now, one.rows_now, one.marks_now), (*form, marks_of(form)))
            same(self, str(one), table_line(form))
            same(self, len(one), len(form[1]))
            same(self, list(one), list(form[1]))
            same(self, [one[index] for index in range(len(one))], list(form[1]))
            for mark in marks_of(form):
                same(self, one(mark), rows_of(form, mark))
                same(self, one(mark=mark), rows_of(form, mark))
            same(self, Table.read(table_line(form)).form, form)
            self.assertIs(type(Table.read(text=str(one))), Table)

    def test_made_by_name(self):
        same(self, Table(rows=('abb',), many=2).form, (2, ('abb',)))

    def test_errors_when_made(self):
        faulty(self, 'many', -1, Table, True, ())
        faulty(self, 'rows', -1, Table, 2, ['abb'])
        faulty(self, 'row', 1, Table, 2, ('abb', 'bba'))
        faulty(self, 'order', 1, Table, many=2, rows=('abb', 'abb', 7))
        for thing in ANY:
            if not ref_table((thing, ('abb',))):
                self.assertRaises(InvalidPaper, Table, thing, ('abb',))
            if not ref_table((2, thing)):
                self.assertRaises(InvalidPaper, Table, 2, thing)

    def test_read_errors(self):
        for text, field in (('', 0), ('2', 1), ('2 baa abb', 2), ('2 baa ', 2)):
            with self.assertRaises(InvalidText) as caught:
                Table.read(text)
            same(self, (caught.exception.line, caught.exception.field), (0, field))
        refuses(self, 'text', Table.read, 7)
        refuses(self, 'text', Table.read, ['2 abb'])

    def test_any_value(self):
        one = Table(*UNLIKE)
        for thing in ANY:
            with self.subTest(thing=repr(thing)[:80]):
                self.assertIs(thing in one, bool(ref_mark_of('abc')(thing)))
                if not (ref_number(thing) and thing < 9):
                    refuses(self, 'index', item, one, thing)
                if not ref_mark_of('abc')(thing):
                    refuses(self, 'mark', one, thing)
                if not isinstance(thing, str):
                    refuses(self, 'row', plus, one, thing)
                    refuses(self, 'row', minus, one, thing)
                    refuses(self, 'lot', cut, one, thing)
                self.assertIs(one == thing, False)
        refuses(self, 'index', item, one, slice(0, 1))

    def test_changes(self):
        one = Table(*STEPS)
        same(self, (one + 'ddd').form, (2, ('abb', 'baa', 'cac', 'cdd', 'dcc', 'ddd')))
        same(self, (one - 'cac').form, (2, ('abb', 'baa', 'cdd', 'dcc')))
        same(self, (one & 'cd').form, (2, ('cdd', 'dcc')))
        same(self, one.form, STEPS)
        for changed in (one + 'ddd', one - 'abb', one & 'ab'):
            self.assertIs(type(changed), Table)
        refuses(self, 'row', plus, one, 'abb')
        refuses(self, 'row', plus, one, 'aba')
        refuses(self, 'row', minus, one, 'aaa')
        refuses(self, 'row', minus, Table(2, ('abb',)), 'abb')
        refuses(self, 'lot', cut, Table(*DIST), 'ab')
        refuses(self, 'lot', cut, one, 'ba')

    def test_back_again(self):
        for form in some_tables(10, 20):
            one = Table(*form)
            for row in all_rows(form[0], 'abz'):
                if row not in form[1]:
                    self.assertTrue((one + row) - row == one)
                    self.assertFalse(one + row == one)
            for lot in some_lots('abc'):
                if any(set(row) <= set(lot) for row in form[1]):
                    same(self, list(one & lot), [row for row in form[1] if set(row) <= set(lot)])

    def test_equal(self):
        one = Table(*UNLIKE)
        self.assertIs(one == Table(*UNLIKE), True)
        self.assertIs(one != Table(*UNLIKE), False)
        self.assertIs(one == Table(*STEPS), False)
        self.assertIs(one == UNLIKE, False)
        self.assertIs(one == Machine(*EVEN), False)


class MachineTest(unittest.TestCase):
    def test_parts(self):
        chance = random.Random(11)
        for form in [EVEN, TWINS, *[some_machine(chance) for _ in range(30)]]:
            one = Machine(*form)
            many, labels, count, leaves, steps, good = form
            same(self, one.form, form)
            same(self, (one.many_now, one.labels_now, one.count_now, one.good_now), (many, labels, count, good))
            same(self, (str(one), len(one), list(one)), (machine_line(form), len(labels), list(labels)))
            same(self, [one[label] for label in labels], list(zip(leaves, steps)))
            self.assertTrue(Machine.read(str(one)) == one)

    def test_standings(self):
        chance = random.Random(12)
        for form in [EVEN, TWINS, *[some_machine(chance) for _ in range(30)]]:
            one = Machine(*form)
            for forks in range(7):
                tree = some_tree(chance, form[0], forks)
                if set(tree.lower()) <= set(form[1]):
                    same(self, one(tree), self.standing(form, tree)[0])
                    same(self, one(tree=tree), one(tree))
                    same(self, one.holds_for(tree), one(tree) in form[5])
                else:
                    refuses(self, 'tree', one, tree)
                    same(self, one.holds_for(thing=tree), False)

    def standing(self, form, tree):
        """The standing of the first place of what is left of a tree, and what is left behind its part."""
        many, labels, count, leaves, steps, _ = form
        spot, rest = labels.index(tree[0].lower()), tree[1:]
        if tree[0].islower():
            return leaves[spot], rest
        index = 0
        for _ in range(many):
            below, rest = self.standing(form, rest)
            index = index * count + below
        return steps[spot][index], rest

    def test_order_of_children(self):
        first = Machine(2, 'ab', 2, (0, 1), ((0, 0, 1, 1), (0, 1, 0, 1)), (1,))
        same(self, [first(tree) for tree in ('Aab', 'Aba', 'Bab', 'Bba')], [0, 1, 1, 0])

    def test_deep_trees(self):
        one = Machine(*EVEN)
        same(self, one('A' * 300 + 'b'), 0)
        same(self, one('A' * 2999 + 'a'), 0)

    def test_any_value(self):
        one = Machine(*EVEN)
        for thing in ANY:
            with self.subTest(thing=repr(thing)[:80]):
                good = ref_tree(1, thing) and set(thing.lower()) <= set('ab')
                same(self, one.holds_for(thing), bool(good and thing.lower().count('a') % 2 == 0))
                same(self, thing in one, bool(ref_mark(thing) and thing in 'ab'))
                if not good:
                    refuses(self, 'tree', one, thing)
                if not (ref_mark(thing) and thing in 'ab'):
                    refuses(self, 'label', item, one, thing)
                if not (ref_number(thing) and thing == 1):
                    refuses(self, 'standing', plus, one, thing)
                if not (ref_number(thing) and thing == 0):
                    refuses(self, 'standing', minus, one, thing)
                self.assertIs(one == thing, False)

    def test_changes(self):
        one = Machine(*EVEN)
        same(self, (one + 1).form, (*EVEN[:5], (0, 1)))
        same(self, (one - 0).form, (*EVEN[:5], ()))
        same(self, (Machine(*TWINS) + 2).good_now, (0, 1, 2))
        same(self, (Machine(*TWINS) - 0 + 2).good_now, (1, 2))
        same(self, (Machine(*TWINS) - 0 + 0).good_now, (0, 1))
        self.assertIs(type(one + 1), Machine)
        self.assertIs(type(one - 0), Machine)
        self.assertTrue((one + 1) - 1 == one)
        self.assertFalse(one + 1 == one)
        same(self, one.form, EVEN)

    def test_errors_when_made(self):
        faulty(self, 'many', -1, Machine, 3, '', 0, (), (), ())
        faulty(self, 'step', (1, 0), Machine, 1, 'ab', 2, (1, 0), ((1, 0), (2, 1)), 7)
        faulty(self, 'good', -1, Machine, many=1, labels='q', count=1, leaves=(0,), steps=((0,),), good=(1,))
        with self.assertRaises(InvalidText) as caught:
            Machine.read('1 ab 2 leaves 1 0 steps 1,0 0,2 good 0')
        same(self, (caught.exception.line, caught.exception.field), (0, 8))
        refuses(self, 'text', Machine.read, None)


class CheckerTest(unittest.TestCase):
    def test_parts(self):
        chance = random.Random(13)
        for form in [PARITY, (1, (), (), ()), *[some_checker(chance) for _ in range(40)]]:
            one = Checker(*form)
            many, tops, leaves, rows = form
            same(self, one.form, form)
            same(self, (one.many_now, one.tops_now, one.leaves_now), (many, tops, leaves))
            tags = {row[index:index + 2] for row in rows for index in range(0, len(row), 2)}
            same(self, one.tags_now, tuple(sorted(tags | set(tops) | set(leaves))))
            same(self, (str(one), len(one), list(one)), (checker_line(form), len(rows), list(rows)))
            same(self, [one[index] for index in range(len(rows))], list(rows))
            self.assertTrue(all(row in one for row in rows))
            self.assertTrue(Checker.read(str(one)) == one)

    def test_any_value(self):
        one = Checker(*PARITY)
        for thing in ANY:
            with self.subTest(thing=repr(thing)[:80]):
                held = isinstance(thing, str) and thing in PARITY[3]
                same(self, thing in one, held)
                if not (ref_number(thing) and thing < 8):
                    refuses(self, 'index', item, one, thing)
                if not held:
                    refuses(self, 'row', minus, one, thing)
                refuses(self, 'row', plus, one, thing)
                self.assertIs(one == thing, False)

    def test_changes(self):
        one = Checker(*PARITY)
        longer = one + 'a0a0'
        same(self, longer.form, (*PARITY[:3], tuple(sorted(PARITY[3] + ('a0a0',)))))
        same(self, (one - 'b0b0').form, (*PARITY[:3], tuple(row for row in PARITY[3] if row != 'b0b0')))
        self.assertIs(type(longer), Checker)
        self.assertIs(type(one - 'b0b0'), Checker)
        self.assertTrue(longer - 'a0a0' == one)
        self.assertFalse(longer == one)
        same(self, (Checker(2, (), (), ()) + 'a0b0c0').form, (2, (), (), ('a0b0c0',)))
        refuses(self, 'row', plus, Checker(2, (), (), ()), 'a0b0')
        refuses(self, 'row', plus, one, 'a0b0c0')
        refuses(self, 'row', plus, one, 'a0a1')
        refuses(self, 'row', minus, one, 'a0a0')
        same(self, one.form, PARITY)

    def test_errors_when_made(self):
        faulty(self, 'many', -1, Checker, 3, 7, 7, 7)
        faulty(self, 'tops', -1, Checker, 1, ['a0'], 7, 7)
        faulty(self, 'order', 1, Checker, many=1, tops=(), leaves=(), rows=('b0b0', 'a0a0'))
        with self.assertRaises(InvalidText) as caught:
            Checker.read('1 tops - leaves - rows')
        same(self, (caught.exception.line, caught.exception.field), (0, 6))
        refuses(self, 'text', Checker.read, ())

    def test_equal(self):
        self.assertIs(Checker(*PARITY) == Checker(*PARITY), True)
        self.assertIs(Checker(*PARITY) == PARITY, False)
        self.assertIs(Checker(1, (), (), ()) == Checker(2, (), (), ()), False)


class NotChangedTest(unittest.TestCase):
    def test_results_are_no_part_of_the_object(self):
        one = Table(*UNLIKE)
        rows = list(one)
        rows.clear()
        same(self, list(one), list(UNLIKE[1]))
        self.assertRaises(NotUsable, item, one, -1)


if __name__ == "__main__":
    unittest.main()
