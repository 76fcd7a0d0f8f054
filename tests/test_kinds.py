"""Which kinds of values there are ([2], [3], [4], [7], [10] to [12], [17])."""

import itertools
import unittest

from markladder import kinds
from values import (ANY, EVEN, PARITY, TABLES, TWINS, is_int, ref_checker, ref_lot, ref_machine, ref_mark, ref_marking,
                    ref_notes, ref_number, ref_row, ref_shape, ref_surrounding, ref_table, ref_tag, ref_tree, same)

ALONE = (
    (kinds.is_integer, is_int), (kinds.is_number, ref_number), (kinds.is_mark, ref_mark), (kinds.is_lot, ref_lot),
    (kinds.is_table, ref_table), (kinds.is_marking, ref_marking), (kinds.is_label, ref_mark),
    (kinds.is_machine, ref_machine), (kinds.is_tag, ref_tag), (kinds.is_notes, ref_notes), (kinds.is_checker, ref_checker),
)
WITH_MANY = ((kinds.is_row, ref_row), (kinds.is_shape, ref_shape), (kinds.is_tree, ref_tree),
             (kinds.is_surrounding, ref_surrounding))


class KindsTest(unittest.TestCase):
    def test_any_value(self):
        for function, fits in ALONE:
            for thing in ANY:
                with self.subTest(function=function.__name__, thing=repr(thing)[:80]):
                    same(self, function(thing), bool(fits(thing)))
                    same(self, function(thing=thing), bool(fits(thing)))

    def test_any_many(self):
        for function, fits in WITH_MANY:
            for many in (1, 2, 3):
                for thing in ANY:
                    with self.subTest(function=function.__name__, many=many, thing=repr(thing)[:80]):
                        same(self, function(many, thing), bool(fits(many, thing)))
            for many in ANY:
                for thing in ('aaa', 'aaaa', '.', '+..', 'a', 'Aa', 'Aaa', '_', None, [many]):
                    with self.subTest(function=function.__name__, many=repr(many)[:80], thing=thing):
                        same(self, function(many=many, thing=thing), bool(fits(many, thing)))

    def test_all_short_strings(self):
        for length in range(5):
            for signs in itertools.product('ab?+._A0', repeat=length):
                text = ''.join(signs)
                for function, fits in ALONE:
                    self.assertIs(function(text), bool(fits(text)), (function.__name__, text))
                for function, fits in WITH_MANY:
                    for many in (1, 2, 3):
                        self.assertIs(function(many, text), bool(fits(many, text)), (function.__name__, many, text))

    def test_good_values(self):
        self.assertTrue(all(kinds.is_table(table) for table in TABLES))
        self.assertTrue(all(kinds.is_machine(machine) for machine in (EVEN, TWINS)))
        self.assertTrue(kinds.is_checker(PARITY))
        self.assertTrue(kinds.is_checker((2, ('a0',), (), ('a0a0b0', 'a0b0a0'))))

    def test_true_is_not_one(self):
        for machine in ((True, *EVEN[1:]), (*EVEN[:2], True, (0, 0), ((0,), (0,)), (0,)), (*EVEN[:3], (True, 0), *EVEN[4:]),
                        (*EVEN[:4], ((True, 0), (0, 1)), (0,)), (*EVEN[:5], (False,)), (*EVEN[:5], (0, True))):
            self.assertIs(kinds.is_machine(machine), False)
        self.assertIs(kinds.is_checker((True, *PARITY[1:])), False)

    def test_lists_are_no_tuples(self):
        for index in (3, 4, 5):
            self.assertIs(kinds.is_machine((*EVEN[:index], list(EVEN[index]), *EVEN[index + 1:])), False)
        self.assertIs(kinds.is_machine((*EVEN[:4], ([1, 0], (0, 1)), (0,))), False)
        for index in (1, 2, 3):
            self.assertIs(kinds.is_checker((*PARITY[:index], list(PARITY[index]), *PARITY[index + 1:])), False)

    def test_other_alphabets(self):
        for sign in ('\u00e9', '\u0430', '\u00b2', '\u0661', '\u00c4'):
            for function, _ in ALONE:
                self.assertIs(function(sign), False)
            self.assertIs(kinds.is_tag('a' + sign), False)
            self.assertIs(kinds.is_tree(1, sign), False)

    def test_deep_and_long_strings(self):
        self.assertIs(kinds.is_tree(1, 'A' * 5999 + 'a'), True)
        self.assertIs(kinds.is_tree(1, 'A' * 5999), False)
        self.assertIs(kinds.is_shape(2, '+' * 2999 + '.' * 3000), True)
        self.assertIs(kinds.is_shape(2, '+.' * 2999 + '.'), True)
        self.assertIs(kinds.is_shape(3, '+' * 1999 + '.' * 3999), True)
        self.assertIs(kinds.is_surrounding(2, 'A' * 1000 + '_' + 'a' * 1000), True)
        self.assertIs(kinds.is_marking('ab?' * 2000), True)


if __name__ == "__main__":
    unittest.main()
