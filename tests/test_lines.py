"""Lines that are written and read ([28])."""

import random
import unittest

from markladder.errors import InvalidText, LadderError, TextError
from markladder.readings import checker_read, machine_read, shape_read, table_read
from markladder.texts import checker_line, machine_line, shape_line, table_line
from oracles import some_shape, some_tables
from values import ANY, EVEN, PARITY, TABLES, TWINS, same

SMALL = (1, 'q', 1, (0,), ((0,),), ())


def some_machine(chance):
    many, count = chance.choice((1, 2)), chance.randint(1, 12)
    labels = ''.join(sorted(chance.sample('abcxyz', chance.randint(1, 3))))
    leaves = tuple(chance.randrange(count) for _ in labels)
    steps = tuple(tuple(chance.randrange(count) for _ in range(count ** many)) for _ in labels)
    return (many, labels, count, leaves, steps, tuple(sorted(chance.sample(range(count), chance.randint(0, count)))))


def some_checker(chance):
    many = chance.choice((1, 2))
    tags = [label + digit for label in 'abz' for digit in '019']
    sets = [tuple(sorted(chance.sample(tags, chance.randint(0, 5)))) for _ in range(2)]
    rows = {''.join(chance.choice(tags) for _ in range(many + 1)) for _ in range(chance.randint(0, 8))}
    return (many, *sets, tuple(sorted(rows)))


class LinesTest(unittest.TestCase):
    def unread(self, field, function, *arguments, **named):
        with self.assertRaises(InvalidText) as caught:
            function(*arguments, **named)
        same(self, (caught.exception.line, caught.exception.field), (0, field))
        self.assertIsInstance(caught.exception, TextError)
        self.assertIsInstance(caught.exception, LadderError)

    def test_written(self):
        same(self, table_line((2, ('abb', 'baa'))), '2 abb baa')
        same(self, table_line((3, ('abbb',))), '3 abbb')
        same(self, shape_line('.', '?'), '. ?')
        same(self, shape_line('+...', 'a?zb'), '+... a?zb')
        same(self, machine_line(SMALL), '1 q 1 leaves 0 steps 0 good -')
        same(self, machine_line(TWINS), '2 ab 3 leaves 0 1 steps 0,2,2,2,1,2,2,2,2 0,2,2,2,1,2,2,2,2 good 0 1')
        same(self, checker_line((2, (), (), ())), '2 tops - leaves - rows -')
        same(self, checker_line((1, ('a0', 'b1'), ('a2',), ('a0b1', 'b1a2'))), '1 tops a0 b1 leaves a2 rows a0b1 b1a2')

    def test_read_as_written(self):
        chance = random.Random(7)
        for table in [*TABLES, *some_tables(8, 40, 'abxyz')]:
            same(self, table_read(table_line(table)), table)
        for machine in [EVEN, TWINS, SMALL, *[some_machine(chance) for _ in range(40)]]:
            same(self, machine_read(machine_line(machine)), machine)
        for checker in [PARITY, *[some_checker(chance) for _ in range(60)]]:
            same(self, checker_read(checker_line(checker)), checker)
        for many in (2, 3):
            for forks in range(9):
                shape = some_shape(chance, many, forks)
                marking = ''.join(chance.choice('ab?z') for _ in shape)
                same(self, shape_read(many, shape_line(shape, marking)), (shape, marking))
        same(self, machine_read(text='1 q 1 leaves 0 steps 0 good -'), SMALL)
        same(self, shape_read(many=3, text='+... abc?'), ('+...', 'abc?'))

    def test_tables_that_are_none(self):
        for field, text in (
                (0, ''), (0, ' '), (0, ' 2 abb'), (0, '1 abb'), (0, '4'), (0, '02 abb'), (0, '2\n abb'), (0, 'two'),
                (0, '2,abb'), (0, '+2 abb'), (1, '2'), (1, '3'), (1, '2 '), (1, '2  abb'), (1, '2 -'), (1, '2 aba'),
                (1, '2 abbb'), (1, '3 abb'), (1, '2 Abb'), (1, '2 abb\n'), (2, '2 abb '), (2, '2 abb abb'),
                (2, '2 baa abb'), (2, '2 abb  baa'), (3, '2 abb baa b'), (2, '2 abb -'), (1, '2 ?bb'),
                (3, '2 abb baa acc'), (4, '2 aaa abb bcc baa')):
            with self.subTest(text=text):
                self.unread(field, table_read, text)

    def test_shapes_that_are_none(self):
        for field, text in (
                (0, ''), (0, '+. ab'), (0, '+... abcd'), (0, 'x'), (0, '.\n a'), (1, '.'), (1, '. '), (1, '. ab'),
                (1, '+.. ab'), (1, '+.. abC'), (1, '+.. ab\n'), (1, '+..  abc'), (2, '+.. abc '), (2, '+.. abc x'),
                (1, '. 1'), (1, '. -')):
            with self.subTest(text=text):
                self.unread(field, shape_read, 2, text)
        self.unread(0, shape_read, 3, '+.. abc')

    def test_machines_that_are_none(self):
        for field, text in (
                (0, ''), (0, '3'), (0, 'x 1'), (1, '1'), (1, '1 '), (1, '1 ba 2'), (1, '1 aa'), (1, '1 -'), (1, '1 a1'),
                (2, '1 ab'), (2, '1 ab 0'), (2, '1 ab 02'), (2, '1 ab -1'), (2, '1 ab x'), (2, '1 ab '), (2, '1 ab 2\n'),
                (2, '1 ab ' + '1' * 61 + ' leaves'), (2, '1 ab 1_0'), (2, '1 ab +2'), (3, '1 ab 2'), (3, '1 ab 2 leave'),
                (3, '1 ab ' + '1' * 60 + ' leave'), (3, '1 ab 2 leaves\n 1'),
                (4, '1 ab 2 leaves'), (4, '1 ab 2 leaves 2'), (4, '1 ab 2 leaves -'), (4, '1 ab 2 leaves 00'),
                (5, '1 ab 2 leaves 1'), (5, '1 ab 2 leaves 1 steps'), (5, '1 ab 2 leaves 1 x'), (6, '1 ab 2 leaves 1 0'),
                (6, '1 ab 2 leaves 1 0 0'), (7, '1 ab 2 leaves 1 0 steps'), (7, '1 ab 2 leaves 1 0 steps 1'),
                (7, '1 ab 2 leaves 1 0 steps 1,0,0'), (7, '1 ab 2 leaves 1 0 steps 1,2 x'),
                (7, '1 ab 2 leaves 1 0 steps 1,'), (7, '1 ab 2 leaves 1 0 steps 1,01'), (7, '1 ab 2 leaves 1 0 steps ,1'),
                (8, '1 ab 2 leaves 1 0 steps 1,0'), (8, '1 ab 2 leaves 1 0 steps 1,0 good'),
                (8, '1 ab 2 leaves 1 0 steps 1,0 0;1'), (9, '1 ab 2 leaves 1 0 steps 1,0 0,1'),
                (9, '1 ab 2 leaves 1 0 steps 1,0 0,1 0,1'), (10, '1 ab 2 leaves 1 0 steps 1,0 0,1 good'),
                (10, '1 ab 2 leaves 1 0 steps 1,0 0,1 good 2'), (10, '1 ab 2 leaves 1 0 steps 1,0 0,1 good '),
                (10, '1 ab 2 leaves 1 0 steps 1,0 0,1 good 00'), (10, '1 ab 2 leaves 1 0 steps 1,0 0,1 good --'),
                (11, '1 ab 2 leaves 1 0 steps 1,0 0,1 good 1 0'), (11, '1 ab 2 leaves 1 0 steps 1,0 0,1 good 0 0'),
                (11, '1 ab 2 leaves 1 0 steps 1,0 0,1 good - 0'), (11, '1 ab 2 leaves 1 0 steps 1,0 0,1 good 0 -'),
                (11, '1 ab 2 leaves 1 0 steps 1,0 0,1 good - '), (12, '1 ab 2 leaves 1 0 steps 1,0 0,1 good 0 1 ')):
            with self.subTest(text=text):
                self.unread(field, machine_read, text)

    def test_standings_ascend_as_numbers(self):
        machine = (1, 'a', 12, (11,), ((0, 1, 2, 3, 4, 5, 6, 7, 8, 9, 10, 11),), (2, 9, 10, 11))
        same(self, machine_read(machine_line(machine)), machine)
        self.unread(9, machine_read, '1 a 12 leaves 11 steps 0,1,2,3,4,5,6,7,8,9,10,11 good 10 9')

    def test_each_one_is_greater_than_the_one_before(self):
        self.unread(10, machine_read, '1 a 3 leaves 0 steps 0,1,2 good 0 2 1')
        self.unread(4, checker_read, '1 tops a0 c0 b0 leaves - rows -')
        self.unread(6, checker_read, '1 tops - leaves a0 c0 b0 rows -')
        self.unread(8, checker_read, '1 tops - leaves - rows a0a0 c0a0 b0a0')

    def test_checkers_that_are_none(self):
        for field, text in (
                (0, ''), (0, '0 tops'), (0, '3'), (1, '1'), (1, '1 top'), (1, '1 '), (2, '1 tops'), (2, '1 tops leaves'),
                (2, '1 tops a'), (2, '1 tops a00'), (2, '1 tops '), (3, '1 tops -'), (3, '1 tops - a0'), (3, '1 tops a0'),
                (3, '1 tops b0 a0'), (3, '1 tops b0 b0'), (3, '1 tops b0 -'), (3, '1 tops b0 rows'),
                (4, '1 tops b0 leaves'), (4, '1 tops b0 leaves rows'), (4, '1 tops b0 leaves 0b'),
                (5, '1 tops b0 leaves - -'), (5, '1 tops b0 leaves a0'), (5, '1 tops b0 leaves b0 a1'),
                (6, '1 tops b0 leaves a0 rows'), (6, '1 tops b0 leaves a0 rows a0'), (6, '1 tops b0 leaves a0 rows '),
                (6, '1 tops b0 leaves a0 rows a0b0a0'), (6, '1 tops b0 leaves a0 rows a0b0\n'),
                (7, '1 tops b0 leaves a0 rows a0b0 a0b0'), (7, '1 tops b0 leaves a0 rows b0b0 a0b0'),
                (7, '1 tops b0 leaves a0 rows - a0b0'), (7, '1 tops b0 leaves a0 rows a0b0 -'),
                (7, '1 tops b0 leaves a0 rows - '), (6, '2 tops b0 leaves a0 rows a0b0'),
                (8, '1 tops - leaves a0 b0 rows a0b0 b0'), (8, '1 tops - leaves a0 b0 rows a0b0 rows')):
            with self.subTest(text=text):
                self.unread(field, checker_read, text)

    def test_any_string(self):
        for text in [thing for thing in ANY if isinstance(thing, str)]:
            for function, line in ((table_read, table_line), (machine_read, machine_line), (checker_read, checker_line)):
                try:
                    same(self, line(function(text)), text)
                except InvalidText as error:
                    self.assertEqual(error.line, 0)


if __name__ == "__main__":
    unittest.main()
