"""Codes of marks, turns, bits by markings, beacons and regions ([9], [71] to [73])."""

import itertools
import random
import unittest

from markladder.bitcodes import (beacons_of, bits_of, code_of, looks_of, period_of, readable_of, regions_of, turns_of,
                                 width_of)
from markladder.fulls import full_shape
from markladder.marking import filled
from oracles import marks_in, places_in, some_shape, some_tables
from values import ANY, DIST, STEPS, TABLES, THREES, TURNS, UNLIKE, refuses, same

ONE, EIGHT = (2, ('aaa',)), (2, tuple(sorted(mark + other * 2 for mark, other in zip('abcdefgh', 'bcdefgha'))))
FIVE = (3, ('abcd', 'bcde', 'caae', 'dabc', 'eaaa'))
SOME = [ONE, EIGHT, FIVE, (3, ('aaaa',)), *TABLES, *some_tables(90, 30, 'abcde', 8)]
CHANCE = random.Random(91)


def long_shape(chance, many, places):
    """A shape that is deep rather than wide."""
    shape, spot = '.', 0
    while len(shape) + many <= places:
        leaves = [place for place in range(len(shape)) if shape[place] == '.']
        spot = chance.choice(leaves[-3:]) if chance.random() < 0.85 else chance.choice(leaves)
        shape = shape[:spot] + '+' + '.' * many + shape[spot + 1:]
    return shape


SHAPES = {many: ['.', '+' + '.' * many, full_shape(many, 3), ('+' + '.' * (many - 1)) * 30 + '.', '+' * 40 + '.' * (40 * (many - 1) + 1),
                 *[long_shape(CHANCE, many, CHANCE.choice((30, 60, 120, 200))) for _ in range(14)],
                 *[some_shape(CHANCE, many, 20) for _ in range(3)]] for many in (2, 3)}
SHAPES[2].append(full_shape(2, 6))
CASES = [(table, shape, gap) for table in SOME for shape in CHANCE.sample(SHAPES[table[0]], 5) for gap in (0, 1, 5)]


def ref_width(table):
    return next(width for width in itertools.count() if 2 ** width >= len(marks_in(table)))


def ref_code(table, mark):
    width = ref_width(table)
    return f'{marks_in(table).index(mark):0{width}b}' if width else ''


class Told:
    """A shape with the turns of its places, told from the definitions."""

    def __init__(self, table, shape, gap):
        self.width = ref_width(table)
        self.period = 2 * self.width + 3 + gap
        self.places = places_in(table[0], shape)
        self.turns = [told['depth'] % self.period for told in self.places]
        self.code_turns = [3 + 2 * k for k in range(self.width)]
        self.beacons = [place for place, turn in enumerate(self.turns) if turn == 0]
        self.readable = [place for place in self.beacons if self.places[place]['height'] >= 2 * self.width + 1]

    def beacon(self, place):
        """The nearest beacon above the place, or itself."""
        while self.turns[place]:
            place = self.places[place]['parent']
        return place

    def region(self, top):
        found, waiting = [top], list(self.places[top]['children'])
        while waiting:
            place = waiting.pop()
            found.append(place)
            if place not in self.readable:
                waiting.extend(self.places[place]['children'])
        return tuple(sorted(found))

    def regions(self):
        return tuple((top, self.region(top)) for top in sorted({0, *self.readable}))

    def bits(self, table, marking):
        bits = ''
        for place, turn in enumerate(self.turns):
            if turn in self.code_turns:
                bits += ref_code(table, marking[self.beacon(place)])[(turn - 3) // 2]
            else:
                bits += '1' if turn in (0, 1) else '0'
        return bits


class BitCodesTest(unittest.TestCase):
    def test_widths_and_codes(self):
        widths = set()
        for table in SOME:
            same(self, width_of(table=table), ref_width(table))
            widths.add(ref_width(table))
            for mark in marks_in(table):
                same(self, code_of(table, mark), ref_code(table, mark))
            self.assertEqual(len({code_of(table, mark) for mark in marks_in(table)}), len(marks_in(table)))
        self.assertEqual(widths, {0, 1, 2, 3})
        same(self, width_of((2, tuple(mark * 3 for mark in 'abcdefghi'))), 4)
        same(self, [code_of(table=EIGHT, mark=mark) for mark in 'aegh'], ['000', '100', '110', '111'])
        same(self, code_of((2, ('mxz',)), 'x'), '01')
        same(self, code_of(ONE, 'a'), '')

    def test_periods_and_looks(self):
        for table in SOME:
            for gap in (0, 1, 7, 10 ** 59):
                same(self, period_of(table, gap), 2 * ref_width(table) + 3 + gap)
                same(self, looks_of(table, gap), 2 * period_of(table, gap) + 4 * ref_width(table) + 1)
        same(self, [period_of(table=ONE, gap=0), looks_of(table=ONE, gap=0)], [3, 7])

    def test_turns_and_beacons(self):
        unreadable = 0
        for table, shape, gap in CASES:
            told = Told(table, shape, gap)
            same(self, turns_of(table, shape, gap), tuple(told.turns))
            same(self, beacons_of(table, shape, gap), tuple(told.beacons))
            same(self, readable_of(table, shape, gap), tuple(told.readable))
            unreadable += 0 not in told.readable
        self.assertTrue(unreadable > 20)
        deep = '+.' * 9 + '.'
        same(self, turns_of(table=ONE, shape=deep, gap=1)[10:], (1, 2, 2, 3, 3, 0, 0, 1, 1))
        same(self, beacons_of(table=ONE, shape='++++.....', gap=0), (0, 3, 6))
        same(self, readable_of(table=ONE, shape='.', gap=0), ())
        same(self, readable_of(ONE, '+..', 0), (0,))
        same(self, readable_of(TURNS, '++...', 0), ())
        same(self, readable_of(TURNS, '+++....', 0), (0,))
        same(self, turns_of(ONE, deep, 10 ** 40)[-1], 9)

    def test_regions(self):
        several = 0
        for table, shape, gap in CASES:
            told = Told(table, shape, gap)
            regions = regions_of(table, shape, gap)
            same(self, regions, told.regions())
            several += len(regions) > 2
            counts = [sum(place in places for _, places in regions) for place in range(len(shape))]
            for place, count in enumerate(counts):
                self.assertEqual(count, 2 if place in told.readable and place > 0 else 1)
        self.assertTrue(several > 30)
        same(self, regions_of(table=ONE, shape='++...', gap=0), ((0, (0, 1, 2, 3, 4)),))

    def test_bits_of(self):
        laid = 0
        for table, shape, gap in CASES:
            marking = filled(table, shape, '?' * len(shape))
            if marking is not None:
                same(self, bits_of(table, shape, marking, gap), Told(table, shape, gap).bits(table, marking))
                laid += len(shape) > 20
                free = CHANCE.randrange(len(shape))
                for mark in marks_in(table):
                    other = filled(table, shape, '?' * free + mark + '?' * (len(shape) - free - 1))
                    if other is not None:
                        same(self, bits_of(table, shape, other, gap), Told(table, shape, gap).bits(table, other))
        self.assertTrue(laid > 60)
        same(self, bits_of(table=ONE, shape='++...', marking='aaaaa', gap=0), '11001')
        same(self, bits_of(TURNS, '.', 'b', 0), '1')
        # One side is deeper than the other; the codes are those of the beacon alone.
        same(self, bits_of(TURNS, '+.+.+.+..', 'baabbaabb', 0), '111001100')

    def test_refused(self):
        for marking in ('abc', 'ab', 'a?b', 'abz', '', None, ['a', 'b', 'b'], 'aab', 'acc', 'bab', 'Abb', 'abbb'):
            refuses(self, 'marking', bits_of, TURNS, '+..', marking, None)
        refuses(self, 'marking', bits_of, DIST, '+..', 'abb', 0)
        refuses(self, 'gap', bits_of, TURNS, '+..', 'abb', -1)
        for gap in (-1, True, None, '0', (0,), [0]):
            for function in (period_of, looks_of):
                refuses(self, 'gap', function, TURNS, gap)
            for function in (turns_of, beacons_of, readable_of, regions_of):
                refuses(self, 'gap', function, TURNS, '.', gap)
        for mark in (*ANY, 'ab', 'z'):
            if mark not in list('abc'):
                refuses(self, 'mark', code_of, UNLIKE, mark)
        for function in (turns_of, beacons_of, readable_of, regions_of):
            refuses(self, 'shape', function, THREES, '+..', None)
            refuses(self, 'shape', function, STEPS, '+...', None)
            refuses(self, 'table', function, None, None, None)


if __name__ == "__main__":
    unittest.main()
