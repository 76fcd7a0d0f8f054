"""Marks that are told by bits, and what judges bits ([9], [74], [75])."""

import itertools
import random
import unittest

from markladder.bitcodes import bits_of
from markladder.bitmarks import lets_bits, marking_by, told_code
from markladder.errors import InvalidPaper
from markladder.marking import filled
from oracles import is_right, marks_in, shapes_up_to
from test_bitcodes import CASES, ONE, Told, ref_code
from values import ANY, DIST, LOST, SIDED, TURNS, UNLIKE, faulty, first_fault, outcome, refuses, same

COMB, BITS = '+.' * 8 + '.', '11100000011110011'
SMALL = [(table, shape, gap) for table in (ONE, TURNS, SIDED, DIST, LOST, UNLIKE) for gap in (0, 1)
         for shape in shapes_up_to(2, 9)[::5] + ['+.+.+.+.+.+..', '++++++.......', '+++.+.+...+.+.+..']]


def first_codes(told, bits):
    """For each readable beacon the code that the bits tell of it."""
    codes = {}
    for beacon in told.readable:
        spots = [[place for place in range(len(bits)) if told.turns[place] == turn and told.beacon(place) == beacon]
                 for turn in told.code_turns]
        codes[beacon] = ''.join(bits[places[0]] for places in spots)
    return codes


def told_marks(table, told, bits):
    marks = {ref_code(table, mark): mark for mark in marks_in(table)}
    return {beacon: marks.get(code) for beacon, code in first_codes(told, bits).items()}


def tops_in_region(table, told, fixed, top, place):
    """The marks that a place can have by right markings of the part of the region that it stands above."""
    children = told.places[place]['children']
    if place != top and place in fixed:
        return {fixed[place]}
    lots = [tops_in_region(table, told, fixed, top, child) for child in children]
    marks = set(marks_in(table))
    if children:
        marks = {row[0] for row in table[1] for order in itertools.permutations(row[1:])
                 if all(mark in lot for mark, lot in zip(order, lots))}
    return marks & {fixed[place]} if place in fixed else marks


def bit_faults(table, shape, bits, gap):
    """The faults of bits, in order, as the document lists them."""
    if type(bits) is not str or len(bits) != len(shape) or set(bits) - set('01'):
        yield 'shape', -1
    told = Told(table, shape, gap)
    for place, turn in enumerate(told.turns):
        if turn not in told.code_turns and bits[place] != ('1' if turn < 2 else '0'):
            yield 'turn', place
    for place, turn in enumerate(told.turns):
        if turn in told.code_turns:
            alike = [other for other in range(len(shape)) if told.turns[other] == turn
                     and told.beacon(other) == told.beacon(place)]
            if bits[place] != bits[alike[0]]:
                yield 'code', place
    fixed = told_marks(table, told, bits)
    for beacon in sorted(fixed):
        if fixed[beacon] is None:
            yield 'mark', beacon
    for top, _ in told.regions():
        if not tops_in_region(table, told, fixed, top, top):
            yield 'region', top


def laid_bits(chance, table, shape, gap):
    """Bits by a right marking, or by codes alone if there is none, with changes here and there."""
    told = Told(table, shape, gap)
    signs = ['?'] * len(shape)
    signs[chance.randrange(len(shape))] = chance.choice(marks_in(table))
    marking = filled(table, shape, ''.join(signs)) or filled(table, shape, '?' * len(shape))
    marking = marking or ''.join(chance.choice(marks_in(table)) for _ in shape)
    bits = list(told.bits(table, marking))
    kind = chance.random()
    if kind < 0.3:
        spot = chance.randrange(len(bits))
        bits[spot] = '10'[int(bits[spot])]
    elif kind < 0.7:
        for beacon in chance.sample(told.beacons, min(2, len(told.beacons))):
            code = ''.join(chance.choice('01') for _ in told.code_turns)
            for place, turn in enumerate(told.turns):
                if turn in told.code_turns and told.beacon(place) == beacon:
                    bits[place] = code[(turn - 3) // 2]
    return ''.join(bits)


class BitMarksTest(unittest.TestCase):
    def test_told_code(self):
        chance = random.Random(92)
        for table, shape, gap in CASES[::3]:
            told = Told(table, shape, gap)
            bits = ''.join(chance.choice('01') for _ in shape)
            codes = first_codes(told, bits)
            for place in range(len(shape)):
                if place in codes:
                    same(self, told_code(table, shape, bits, gap, place), codes[place])
                else:
                    refuses(self, 'place', told_code, table, shape, bits, gap, place)
        same(self, told_code(table=TURNS, shape=COMB, bits=BITS, gap=0, place=0), '0')
        same(self, told_code(ONE, '+..', '010', 0, 0), '')
        for place in ANY:
            if place is False or place is True or place not in (0, 10):
                refuses(self, 'place', told_code, TURNS, COMB, BITS, 0, place)

    def test_marking_by(self):
        chance = random.Random(93)
        found = set()
        for table, shape, gap in CASES + SMALL:
            told = Told(table, shape, gap)
            for _ in range(3):
                bits = laid_bits(chance, table, shape, gap)
                fixed = told_marks(table, told, bits)
                marking = None
                if None not in fixed.values():
                    marking = filled(table, shape, ''.join(fixed.get(place, '?') for place in range(len(shape))))
                same(self, marking_by(table, shape, bits, gap), marking)
                found.add((marking is None, None in fixed.values()))
        self.assertEqual(found, {(True, True), (True, False), (False, False)})
        same(self, marking_by(table=TURNS, shape=COMB, bits=BITS, gap=0), 'abbaabbaabbaabbaa')
        same(self, marking_by(LOST, '+++..+..+..', '11000100100', 0), None)
        # The bits of other places do not matter.
        same(self, marking_by(TURNS, '+++.+..+..+..', '0000000000000', 0), filled(TURNS, '+++.+..+..+..', '?' * 13))

    def test_lets_bits(self):
        chance = random.Random(94)
        words = set()
        for table, shape, gap in CASES + SMALL:
            for _ in range(2):
                bits = laid_bits(chance, table, shape, gap)
                fault = first_fault(bit_faults(table, shape, bits, gap))
                told = outcome(lets_bits, table, shape, bits, gap)
                self.assertEqual(told, fault or repr(marking_by(table, shape, bits, gap)))
                words.add(fault and fault.split("'")[3])
                if fault is None:
                    self.assertTrue(is_right(table, shape, marking_by(table, shape, bits, gap)))
        self.assertEqual(words, {None, 'turn', 'code', 'mark', 'region'})
        same(self, lets_bits(table=TURNS, shape=COMB, bits=BITS, gap=0), 'abbaabbaabbaabbaa')

    def test_one_fault_ahead_of_others(self):
        # The mark c has the code 10; 11 is no mark's.
        shape = '+' * 9 + '.' * 10
        good = bits_of(UNLIKE, shape, filled(UNLIKE, shape, '?' * 19), 0)
        told = Told(UNLIKE, shape, 0)
        self.assertEqual(told.readable, [0])
        code_places = [place for place, turn in enumerate(told.turns) if turn in (3, 5)]
        bad_code = ''.join('1' if place in code_places else bit for place, bit in enumerate(good))
        faulty(self, 'mark', 0, lets_bits, UNLIKE, shape, bad_code, 0)
        last = code_places[-1]
        twisted = bad_code[:last] + '0' + bad_code[last + 1:]
        faulty(self, 'code', last, lets_bits, UNLIKE, shape, twisted, 0)
        faulty(self, 'turn', 18, lets_bits, UNLIKE, shape, twisted[:18] + '0', 0)
        faulty(self, 'turn', 2, lets_bits, UNLIKE, shape, twisted[:2] + '1' + twisted[3:18] + '0', 0)
        faulty(self, 'shape', -1, lets_bits, UNLIKE, shape, '1' + twisted[1:18], 0)

    def test_regions_one_after_the_other(self):
        # Each deep comb of TURNS has regions from each beacon to the next ones; a wrong code breaks the region above.
        told = Told(TURNS, '+.' * 16 + '.', 0)
        marking = filled(TURNS, '+.' * 16 + '.', '?' * 33)
        good = told.bits(TURNS, marking)
        self.assertEqual(told.readable, [0, 10, 20])
        for broken, region in ((0, 0), (10, 0), (20, 10)):
            bits = list(good)
            for place, turn in enumerate(told.turns):
                if turn == 3 and told.beacon(place) == broken:
                    bits[place] = '10'[int(bits[place])]
            faulty(self, 'region', region, lets_bits, TURNS, '+.' * 16 + '.', ''.join(bits), 0)

    def test_shape_and_any_value(self):
        for bits in (*ANY, BITS[:-1], BITS + '0', BITS[:-1] + '2', BITS[:-1] + ' ', list(BITS), tuple(BITS), int(BITS), BITS + '\n'):
            with self.subTest(bits=repr(bits)[:60]):
                kept = repr(bits)
                faulty(self, 'shape', -1, lets_bits, TURNS, COMB, bits, 0)
                self.assertEqual(repr(bits), kept)
        refuses(self, 'gap', lets_bits, TURNS, COMB, None, True)
        refuses(self, 'shape', lets_bits, TURNS, '+...', None, None)
        refuses(self, 'table', lets_bits, None, None, None, None)
        for bits in (*ANY, BITS[:-1], BITS + '0', '2' * 17):
            refuses(self, 'bits', marking_by, TURNS, COMB, bits, None)
            refuses(self, 'bits', told_code, TURNS, COMB, bits, None, None)


class ConsequencesTest(unittest.TestCase):
    def test_bits_of_markings(self):
        chance = random.Random(95)
        for table, shape, gap in CASES + SMALL:
            signs = ['?'] * len(shape)
            signs[chance.randrange(len(shape))] = chance.choice(marks_in(table))
            for told in (filled(table, shape, ''.join(signs)), filled(table, shape, '?' * len(shape))):
                if told is None:
                    continue
                bits = bits_of(table, shape, told, gap)
                marking = lets_bits(table, shape, bits, gap)
                same(self, marking, marking_by(table, shape, bits, gap))
                self.assertTrue(is_right(table, shape, marking))
                for place in Told(table, shape, gap).readable:
                    self.assertEqual(marking[place], told[place])

    def test_least_marks_in_each_region(self):
        chance = random.Random(96)
        for table, shape, gap in CASES[::3] + SMALL:
            bits = laid_bits(chance, table, shape, gap)
            if first_fault(bit_faults(table, shape, bits, gap)) is None:
                told = Told(table, shape, gap)
                marking = marking_by(table, shape, bits, gap)
                fixed = told_marks(table, told, bits)
                for top, places in told.regions():
                    inner = ''.join('.' if place in told.readable and place != top else shape[place] for place in places)
                    least = filled(table, inner, ''.join(fixed.get(place, '?') for place in places))
                    self.assertEqual(''.join(marking[place] for place in places), least)

    def test_shapes_that_can_be_marked(self):
        for table, shape, gap in SMALL:
            if len(shape) <= 9 and len(marks_in(table)) < 4:
                right = filled(table, shape, '?' * len(shape)) is not None
                told = Told(table, shape, gap)
                choices = [''.join(code) for code in itertools.product('01', repeat=told.width)]
                let = False
                for codes in itertools.product(choices, repeat=len(told.beacons)):
                    code = dict(zip(told.beacons, codes))
                    bits = ''.join(code[told.beacon(place)][(turn - 3) // 2] if turn in told.code_turns else '1' if turn < 2 else '0'
                                   for place, turn in enumerate(told.turns))
                    let = let or not outcome(lets_bits, table, shape, bits, gap).startswith('Invalid')
                self.assertEqual(let, right)
        self.assertRaises(InvalidPaper, lets_bits, LOST, '+++..+..+..', '11001001001', 0)


if __name__ == "__main__":
    unittest.main()
