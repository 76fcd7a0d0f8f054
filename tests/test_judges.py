"""What judges values: the first fault, in the order of each list ([16], [18] to [20])."""

import unittest

from markladder.errors import InvalidPaper
from markladder.judges import lets_checker, lets_machine, lets_shape, lets_table, lets_tree
from values import (ANY, EVEN, LONG, PARITY, TWINS, UNLIKE, faulty, ref_checker, ref_machine, ref_shape, ref_table,
                    ref_tree, refuses, same)


class TableJudgeTest(unittest.TestCase):
    def test_tables(self):
        same(self, lets_table(UNLIKE), (3, 9))
        same(self, lets_table(thing=LONG), (6, 8))
        same(self, lets_table((3, ('zaaz',))), (2, 1))

    def test_faults(self):
        for word, at, thing in (
                ('shape', -1, [2, ('abb',)]), ('shape', -1, (2,)), ('shape', -1, (2, ('abb',), 1)), ('shape', -1, None),
                ('shape', -1, 'ab'), ('many', -1, (True, 7)), ('many', -1, (4, ())), ('many', -1, ([], ())),
                ('many', -1, ('2', ('abb',))), ('many', -1, (10 ** 59, ('abb',))), ('rows', -1, (2, ())),
                ('rows', -1, (2, ['abb'])), ('rows', -1, (2, 'abb')), ('rows', -1, (2, None)),
                ('row', 0, (2, ('ab',))), ('row', 0, (2, ('aba', 'abb'))), ('row', 0, (2, (None, 'x'))),
                ('row', 1, (2, ('abb', 'bba'))), ('row', 1, (2, ('abb', ['baa']))), ('row', 1, (3, ('abbb', 'abb'))),
                ('row', 1, (2, ('baa', 'aBb', 'abb'))), ('order', 1, (2, ('baa', 'abb'))),
                ('order', 1, (2, ('abb', 'abb', 'x'))), ('order', 2, (2, ('abb', 'baa', 'acc'))),
                ('order', 1, (2, ('baa', 'abb', 7)))):
            with self.subTest(thing=thing):
                faulty(self, word, at, lets_table, thing)

    def test_any_value(self):
        for thing in ANY:
            if ref_table(thing):
                same(self, lets_table(thing), (len(set(''.join(thing[1]))), len(thing[1])))
            else:
                self.assertRaises(InvalidPaper, lets_table, thing)


class ShapeJudgeTest(unittest.TestCase):
    def test_shapes(self):
        same(self, lets_shape(2, '.'), (1, 0, 0))
        same(self, lets_shape(2, '+.+..'), (5, 2, 2))
        same(self, lets_shape(3, '++.....'), (7, 2, 2))
        same(self, lets_shape(many=2, thing='+' * 300 + '.' * 301), (601, 300, 300))
        same(self, lets_shape(2, '+++..+..+..'), (11, 5, 3))

    def test_faults(self):
        for word, at, thing in (
                ('shape', -1, None), ('shape', -1, ['.']), ('shape', -1, 7), ('sign', 0, 'x'), ('sign', 0, 'xx'),
                ('sign', 1, '+x.'), ('sign', 1, '.x'), ('sign', 2, '+.\n'), ('sign', 1, '. '), ('more', 1, '..x'),
                ('more', 1, '.+'), ('more', 3, '+...'), ('sign', 3, '+..?.'), ('lacks', 1, ''), ('lacks', 2, '+'),
                ('lacks', 1, '+.'), ('lacks', 3, '++'), ('lacks', 2, '++.'), ('lacks', 3001, '+' * 3000)):
            with self.subTest(thing=thing):
                faulty(self, word, at, lets_shape, 2, thing)
        faulty(self, 'lacks', 3, lets_shape, 3, '+')
        faulty(self, 'lacks', 1, lets_shape, 3, '+..')
        faulty(self, 'more', 4, lets_shape, 3, '+....')

    def test_any_many(self):
        for many in ANY:
            if many not in (2, 3) or isinstance(many, bool):
                refuses(self, 'many', lets_shape, many, '.')
                refuses(self, 'many', lets_shape, many, None)

    def test_any_value(self):
        for many in (2, 3):
            for thing in ANY:
                if not ref_shape(many, thing):
                    self.assertRaises(InvalidPaper, lets_shape, many, thing)
                else:
                    same(self, lets_shape(many, thing)[:2], (len(thing), thing.count('+')))


class TreeJudgeTest(unittest.TestCase):
    def test_trees(self):
        same(self, lets_tree(1, 'ABa'), (3, 2, 2))
        same(self, lets_tree(2, 'z'), (1, 0, 0))
        same(self, lets_tree(many=2, thing='AbAab'), (5, 2, 2))
        same(self, lets_tree(1, 'A' * 300 + 'b'), (301, 300, 300))

    def test_faults(self):
        for word, at, many, thing in (
                ('shape', -1, 1, None), ('shape', -1, 2, ('a',)), ('sign', 0, 1, '.'), ('sign', 1, 1, 'A_'),
                ('sign', 1, 1, 'a_'), ('more', 1, 1, 'aA'), ('more', 1, 2, 'ab_'), ('more', 2, 1, 'Aaa'),
                ('more', 3, 2, 'Aaaa'), ('lacks', 1, 1, ''), ('lacks', 1, 1, 'AB'), ('lacks', 1, 2, ''),
                ('lacks', 2, 2, 'A'), ('lacks', 2, 2, 'ABa'), ('sign', 2, 2, 'Aa1'), ('sign', 1, 2, 'a\n')):
            with self.subTest(thing=thing):
                faulty(self, word, at, lets_tree, many, thing)

    def test_any_many(self):
        for many in ANY:
            if many not in (1, 2) or isinstance(many, bool):
                refuses(self, 'many', lets_tree, many, 'a')
                refuses(self, 'many', lets_tree, many, [])

    def test_any_value(self):
        for many in (1, 2):
            for thing in ANY:
                if not ref_tree(many, thing):
                    self.assertRaises(InvalidPaper, lets_tree, many, thing)
                else:
                    same(self, lets_tree(many, thing)[0], len(thing))


class MachineJudgeTest(unittest.TestCase):
    def with_part(self, machine, **parts):
        names = ('many', 'labels', 'count', 'leaves', 'steps', 'good')
        return tuple(parts.get(name, value) for name, value in zip(names, machine))

    def test_machines(self):
        same(self, lets_machine(EVEN), (2, 1))
        same(self, lets_machine(thing=TWINS), (2, 2))
        same(self, lets_machine((1, 'q', 1, (0,), ((0,),), ())), (1, 0))

    def test_faults(self):
        for word, at, parts in (
                ('many', -1, {'many': 3, 'labels': ''}), ('many', -1, {'many': True}), ('many', -1, {'many': [1]}),
                ('labels', -1, {'labels': '', 'count': 0}), ('labels', -1, {'labels': 'ba'}),
                ('labels', -1, {'labels': 'aa'}), ('labels', -1, {'labels': ('a', 'b')}),
                ('labels', -1, {'labels': 'aB'}), ('count', -1, {'count': 0, 'leaves': ()}),
                ('count', -1, {'count': True}), ('count', -1, {'count': '2'}), ('count', -1, {'count': -10 ** 59}),
                ('leaves', -1, {'leaves': (1,), 'steps': ()}), ('leaves', -1, {'leaves': [1, 0]}),
                ('leaves', -1, {'leaves': (1, 0, 0)}), ('leaves', -1, {'leaves': 10}),
                ('leaves', 0, {'leaves': (2, 5)}), ('leaves', 0, {'leaves': (-1, 0), 'steps': ()}),
                ('leaves', 1, {'leaves': (1, True)}), ('leaves', 1, {'leaves': (1, None)}),
                ('steps', -1, {'steps': ((1, 0),)}), ('steps', -1, {'steps': [(1, 0), (0, 1)]}),
                ('steps', -1, {'steps': None, 'good': 7}),
                ('steps', 0, {'steps': ((1,), (0, 7))}), ('steps', 0, {'steps': ([1, 0], 7)}),
                ('steps', 1, {'steps': ((1, 0), (0, 1, 0))}), ('steps', 1, {'steps': ((1, 0), None)}),
                ('step', (0, 0), {'steps': ((2, 7), (0,))}), ('step', (0, 1), {'steps': ((1, False), (0,))}),
                ('step', (1, 1), {'steps': ((1, 0), (0, 2))}), ('step', (1, 0), {'steps': ((1, 0), ('0', 1)), 'good': 0}),
                ('good', -1, {'good': [0]}), ('good', -1, {'good': (1, 0)}), ('good', -1, {'good': (0, 0)}),
                ('good', -1, {'good': (2,)}), ('good', -1, {'good': (False,)}), ('good', -1, {'good': ('0',)}),
                ('good', -1, {'good': (0, [])}), ('leaves', 0, {'many': 2, 'leaves': (2, 0)}),
                ('steps', 0, {'many': 2}), ('steps', 0, {'count': 10 ** 59})):
            with self.subTest(parts=parts):
                faulty(self, word, at, lets_machine, self.with_part(EVEN, **parts))
        faulty(self, 'step', (1, 8), lets_machine,
               self.with_part(TWINS, steps=(TWINS[4][0], (0, 2, 2, 2, 1, 2, 2, 2, 3))))

    def test_no_tuple_of_six(self):
        for thing in (None, list(EVEN), EVEN[:5], EVEN + (0,), 'abcdef', ()):
            faulty(self, 'shape', -1, lets_machine, thing)

    def test_any_value(self):
        for thing in ANY:
            if ref_machine(thing):
                same(self, lets_machine(thing), (len(thing[1]), len(thing[5])))
            else:
                self.assertRaises(InvalidPaper, lets_machine, thing)
            for index in range(6):
                other = (*EVEN[:index], thing, *EVEN[index + 1:])
                if not ref_machine(other):
                    self.assertRaises(InvalidPaper, lets_machine, other)


class CheckerJudgeTest(unittest.TestCase):
    def test_checkers(self):
        same(self, lets_checker(PARITY), (4, 8))
        same(self, lets_checker(thing=(1, (), ('a0', 'b0'), ('a1a0',))), (3, 1))
        same(self, lets_checker((2, ('z9',), (), ())), (1, 0))
        same(self, lets_checker((1, (), (), ())), (0, 0))

    def test_faults(self):
        many, tops, leaves, rows = PARITY
        for word, at, thing in (
                ('shape', -1, list(PARITY)), ('shape', -1, PARITY[:3]), ('shape', -1, PARITY + ((),)), ('shape', -1, 7),
                ('many', -1, (0, 7, 7, 7)), ('many', -1, (True, tops, leaves, rows)), ('many', -1, (3, (), (), ())),
                ('tops', -1, (many, ('b0', 'a0'), 7, rows)), ('tops', -1, (many, ['a0'], leaves, rows)),
                ('tops', -1, (many, ('a0', 'a0'), leaves, rows)), ('tops', -1, (many, ('a',), leaves, rows)),
                ('tops', -1, (many, 'a0', leaves, rows)), ('tops', -1, (many, (0,), leaves, rows)),
                ('leaves', -1, (many, tops, ('a0', ['b0']), 7)), ('leaves', -1, (many, tops, ('a1', 'a0'), rows)),
                ('leaves', -1, (many, tops, None, rows)), ('rows', -1, (many, tops, leaves, ['a0a1'])),
                ('rows', -1, (many, tops, leaves, 'a0a1')), ('row', 0, (many, tops, leaves, ('a0', 7))),
                ('row', 0, (many, tops, leaves, ('a0a1a0',))), ('row', 0, (2, tops, leaves, rows)),
                ('row', 1, (many, tops, leaves, ('b0a1', 'a0aa'))), ('row', 1, (many, tops, leaves, ('a0a1', None))),
                ('order', 1, (many, tops, leaves, ('b0a1', 'a0a1', 7))),
                ('order', 1, (many, tops, leaves, ('b0a1', 'b0a1'))),
                ('order', 2, (many, tops, leaves, ('a0a1', 'b0a1', 'a0b1')))):
            with self.subTest(thing=thing):
                faulty(self, word, at, lets_checker, thing)

    def test_any_value(self):
        for thing in ANY:
            if not ref_checker(thing):
                self.assertRaises(InvalidPaper, lets_checker, thing)
            for index in range(4):
                other = (*PARITY[:index], thing, *PARITY[index + 1:])
                if not ref_checker(other):
                    self.assertRaises(InvalidPaper, lets_checker, other)


if __name__ == "__main__":
    unittest.main()
