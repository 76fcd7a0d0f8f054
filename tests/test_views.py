"""What places see, the marks that they tell by it, and the Helper ([76] to [78])."""

import random
import unittest

from markladder.bitcodes import bits_of, code_of, looks_of, period_of, width_of
from markladder.bitmarks import lets_bits, marking_by
from markladder.errors import NotUsable, RuleError
from markladder.helpers import Helper
from markladder.marking import filled
from markladder.seenmarks import mark_seen
from markladder.views import is_view, view_of
from oracles import marks_in, places_in, some_shape
from test_bitcodes import CASES, EIGHT, FIVE, ONE, SHAPES, SOME, Told
from test_bitmarks import laid_bits
from values import ANY, LOST, THREES, TURNS, UNLIKE, changed, faulty, is_int, ref_shape, refuses, same

COMB, BITS = '+.' * 8 + '.', '11100000011110011'


def ref_view(many, shape, bits, place, steps):
    places = places_in(many, shape)
    seen, edge = {place}, {place}
    for _ in range(min(steps, 2 * len(shape))):
        near = set()
        for spot in edge:
            near.update(places[spot]['children'])
            if places[spot]['parent'] is not None:
                near.add(places[spot]['parent'])
        edge = near - seen
        seen |= near
    highest = min(seen, key=lambda spot: places[spot]['depth'])
    signs, told, order = [], [], []

    def write(spot):
        children = places[spot]['children']
        order.append(spot)
        told.append(bits[spot] if spot in seen else '_')
        if spot not in seen:
            signs.append('_')
        elif not children:
            signs.append('.')
        elif not seen & set(children):
            signs.append('-')
        else:
            signs.append('+')
            for child in children:
                write(child)
    write(highest)
    return ('^' * (highest > 0) + ''.join(signs), ''.join(told), order.index(place))


def ref_is_view(many, thing):
    if not is_int(many) or many not in (2, 3) or type(thing) is not tuple or len(thing) != 3:
        return False
    seen, bits, spot = thing
    if type(seen) is not str or type(bits) is not str or not is_int(spot):
        return False
    signs = seen[seen.startswith('^'):]
    if not ref_shape(many, signs.replace('-', '.').replace('_', '.')) or signs.startswith('_') or len(bits) != len(signs):
        return False
    fits = all(bit == '_' if sign == '_' else bit in ('0', '1') for sign, bit in zip(signs, bits))
    return fits and 0 <= spot < len(signs) and signs[spot] != '_'


class ViewsTest(unittest.TestCase):
    def test_view_of(self):
        chance = random.Random(100)
        signs = set()
        for many in (2, 3):
            for shape in SHAPES[many] + [some_shape(chance, many, forks) for forks in (1, 2, 3, 5, 8)]:
                bits = ''.join(chance.choice('01') for _ in shape)
                for place in chance.sample(range(len(shape)), min(len(shape), 6)):
                    for steps in (0, 1, 2, 3, 5, 9, 30, 10 ** 59):
                        view = view_of(many, shape, bits, place, steps)
                        same(self, view, ref_view(many, shape, bits, place, steps))
                        self.assertIs(is_view(many, view), True)
                        self.assertEqual(view[1].count('_') == 0, '_' not in view[0])
                        signs.update(view[0])
        self.assertEqual(signs, set('^+.-_'))
        same(self, view_of(many=2, shape='+..', bits='101', place=2, steps=1), ('+_.', '1_1', 2))
        same(self, view_of(2, '+..', '101', 2, 0), ('^.', '1', 0))
        same(self, view_of(2, '+..', '101', 0, 0), ('-', '1', 0))
        same(self, view_of(3, '++......'[:7], '1010101', 1, 1), ('+-__'[:1] + '+...__', '10101__', 1))
        same(self, view_of(2, '.', '0', 0, 7), ('.', '0', 0))

    def test_is_view(self):
        for many, thing, told in (
                (2, ('+.-', '111', 0), True), (2, ('+.-', '111', 2), True), (2, ('+.-', '111', 3), False),
                (2, ('^+.-', '111', 0), True), (2, ('+.-', '1111', 0), False), (2, ('+.-', '11', 0), False),
                (2, ('^^+.-', '111', 0), False), (2, ('+^.-', '111', 0), False), (2, ('', '', 0), False),
                (2, ('^', '', 0), False), (2, ('_', '_', 0), False), (2, ('^_', '_', 0), False), (2, ('-', '0', 0), True),
                (2, ('+__', '1__', 0), True), (2, ('+__', '1__', 1), False), (2, ('+_.', '1_1', 0), True),
                (2, ('+_.', '111', 0), False), (2, ('+-.', '1_1', 0), False), (2, ('+..', '12_', 0), False),
                (2, ('+..', '111', True), False), (2, ('+..', '111', -1), False), (2, ['+..', '111', 0], False),
                (2, ('+..', '111'), False), (2, ('+..', '111', 0, 0), False), (2, ('+..', ['1', '1', '1'], 0), False),
                (2, (None, '111', 0), False), (2, ('+..', '111', None), False), (2, ('+..', '111', '0'), False),
                (3, ('+...', '1111', 3), True), (3, ('+..', '111', 0), False), (2, ('+...', '1111', 0), False),
                (2, ('+.-.', '1111', 0), False), (2, ('+.', '11', 0), False), (2, ('+..', '1 1', 0), False),
                (True, ('-', '0', 0), False), (1, ('-', '0', 0), False), (None, ('-', '0', 0), False), (4, ('-', '0', 0), False)):
            with self.subTest(many=many, thing=thing):
                self.assertIs(is_view(many, thing), told)
                self.assertEqual(ref_is_view(many, thing), told)
        self.assertIs(is_view(many=2, thing=('-', '0', 0)), True)
        for sign in [chr(code) for code in range(32, 127)] + ['\n']:
            for view in (('+' + sign + '.', '111', 0), ('+' + sign + '.', '1_1', 0), (sign + '..', '111', 0), (sign, '1', 0),
                         ('+..', '1' + sign + '1', 0), ('+_.', '1' + sign + '1', 0), (sign + '+..', '111', 0)):
                self.assertIs(is_view(2, view), ref_is_view(2, view))

    def test_any_value(self):
        chance = random.Random(101)
        good = ('^+_+.+.+.-', '1_0000011', 4)
        for thing in ANY:
            for view in (thing, (thing,) + good[1:], (good[0], thing, 4), good[:2] + (thing,)):
                kept = repr(view)
                for many in (2, 3, True, thing):
                    self.assertIs(is_view(many, view), ref_is_view(many, view))
                self.assertEqual(repr(view), kept)
        pool = ['+..', '^+._', '1_1', '11_', '_', '^', '', 0, 1, True, None, '+-.', '^-', '1']
        for _ in range(600):
            view = changed(chance, chance.choice((good, ('+..', '111', 0), ('^+_.', '1_1', 0))), pool)
            self.assertIs(is_view(2, view), ref_is_view(2, view))


class SeenMarksTest(unittest.TestCase):
    def check(self, table, shape, bits, gap, steps, places):
        marking = marking_by(table, shape, bits, gap)
        for place in places:
            view = view_of(table[0], shape, bits, place, steps)
            same(self, mark_seen(table, view, gap), marking[place])

    def test_all_places(self):
        chance = random.Random(102)
        tried = {}
        for table, shape, gap in CASES:
            told = filled(table, shape, '?' * len(shape))
            if told is not None:
                bits = bits_of(table, shape, told, gap)
                steps = looks_of(table, gap) + chance.choice((0, 0, 0, 1, 5, 10 ** 40))
                places = chance.sample(range(len(shape)), min(len(shape), 12))
                self.check(table, shape, bits, gap, steps, places)
                tried[width_of(table)] = tried.get(width_of(table), 0) + 1
        self.assertTrue(min(tried.values()) > 10 and set(tried) == {0, 1, 2, 3})

    def test_deep_shapes(self):
        # So deep that places far below do not see the top, and those in the middle neither top nor end.
        chance = random.Random(103)
        hidden = 0
        for table in (ONE, TURNS, UNLIKE, EIGHT, (3, ('aaab', 'abbb', 'baab')), FIVE):
            for gap in (0, 1, 4):
                for thick in (1, 4, 9):
                    shape = '.'
                    spot = 0
                    while len(shape) < 200 - 3 * thick:
                        shape = shape[:spot] + '+' + '.' * table[0] + shape[spot + 1:]
                        leaves = [place for place, sign in enumerate(shape) if sign == '.']
                        places = places_in(table[0], shape)
                        deepest = max(leaves, key=lambda place: (places[place]['depth'], place))
                        spot = chance.choice(leaves) if chance.random() < thick / 20 else deepest
                    bits = laid_bits(chance, table, shape, gap)
                    try:
                        lets_bits(table, shape, bits, gap)
                    except ValueError:
                        told = filled(table, shape, '?' * len(shape))
                        if told is None:
                            continue
                        bits = bits_of(table, shape, told, gap)
                    steps = looks_of(table, gap)
                    places = [0, len(shape) - 1, *chance.sample(range(len(shape)), 24)]
                    self.check(table, shape, bits, gap, steps, places)
                    hidden += any(view_of(table[0], shape, bits, place, steps)[0][0] == '^' for place in places)
        self.assertTrue(hidden > 12)

    def test_codes_of_no_readable_beacons(self):
        """Bits that are let, but by no marking: the codes below unreadable beacons are any."""
        chance = random.Random(104)
        tried = 0
        for table, shape, gap in CASES:
            marking = filled(table, shape, '?' * len(shape))
            told = Told(table, shape, gap)
            loose = [beacon for beacon in told.beacons if beacon not in told.readable]
            if marking is not None and loose:
                bits = list(told.bits(table, marking))
                for beacon in loose:
                    code = [chance.choice('01') for _ in told.code_turns]
                    for place, turn in enumerate(told.turns):
                        if turn in told.code_turns and told.beacon(place) == beacon:
                            bits[place] = code[(turn - 3) // 2]
                tried += 1
                bits = ''.join(bits)
                same(self, lets_bits(table, shape, bits, gap), marking_by(table, shape, bits, gap))
                places = chance.sample(range(len(shape)), min(len(shape), 9))
                self.check(table, shape, bits, gap, looks_of(table, gap), places)
        self.assertTrue(tried > 40)

    def test_other_views(self):
        chance = random.Random(105)
        refused = 0
        for table in SOME:
            for gap in (0, 2):
                for _ in range(12):
                    shape = chance.choice(SHAPES[table[0]])
                    bits = ''.join(chance.choice('01') for _ in shape)
                    view = view_of(table[0], shape, bits, chance.randrange(len(shape)), chance.choice((0, 1, 3, 8, 20)))
                    try:
                        self.assertIn(mark_seen(table, view, gap), list(marks_in(table)))
                    except NotUsable as error:
                        same(self, (error.word, error.at), ('view', -1))
                        self.assertIsInstance(error, RuleError)
                        refused += 1
        self.assertTrue(refused > 50)
        for view in (('+__', '1__', 0), ('^-', '0', 0), ('^+_.', '1_1', 2), ('-', '1', 0)):
            refuses(self, 'view', mark_seen, TURNS, view, 0)

    def test_refused(self):
        good = view_of(2, COMB, BITS, 6, 15)
        for view in (*ANY, list(good), good[:2], good + (0,), (good[0], good[1], True)):
            refuses(self, 'view', mark_seen, TURNS, view, None)
        refuses(self, 'view', mark_seen, THREES, good, 0)
        refuses(self, 'gap', mark_seen, TURNS, good, -1)
        refuses(self, 'gap', mark_seen, TURNS, ('-', '1', 0), True)
        same(self, mark_seen(table=TURNS, view=good, gap=0), 'b')


class HelperTest(unittest.TestCase):
    def test_properties_and_codes(self):
        for table in SOME:
            for gap in (0, 3, 10 ** 59):
                one = Helper(table, gap)
                same(self, [one.table_now, one.gap_now, one.width_now], [table, gap, width_of(table)])
                same(self, [one.period_now, one.sight_now], [period_of(table, gap), looks_of(table, gap)])
                pairs = [(mark, code_of(table, mark)) for mark in marks_in(table)]
                same(self, list(one), pairs)
                same(self, [pair for pair in one], pairs)
                same(self, len(one), len(pairs))
                same(self, [one[mark] for mark in marks_in(table)], [code for _, code in pairs])
        same(self, Helper(table=UNLIKE, gap=1).period_now, 8)

    def test_contained(self):
        one = Helper(UNLIKE, 0)
        for thing in (*ANY, ('a', '00'), '00', 'ab', 'd'):
            self.assertIs(thing in one, type(thing) is str and thing in ('a', 'b', 'c'))
            if thing not in list('abc'):
                refuses(self, 'mark', lambda: one[thing])

    def test_methods(self):
        one = Helper(TURNS, 0)
        marking = 'abbaabbaabbaabbaa'
        same(self, one(COMB, marking), BITS)
        same(self, one(shape=COMB, marking=marking), BITS)
        same(self, one.marking(COMB, BITS), marking)
        same(self, one.marking(shape=COMB, bits=BITS[:15] + '00'), None)
        same(self, one.judged(COMB, BITS), marking)
        same(self, one.judged(shape=COMB, bits=BITS), marking)
        same(self, one.view(COMB, BITS, 6), view_of(2, COMB, BITS, 6, 15))
        same(self, one.view(shape=COMB, bits=BITS, place=16), view_of(2, COMB, BITS, 16, 15))
        same(self, [one.seen(one.view(COMB, BITS, place)) for place in range(17)], list(marking))
        same(self, one.seen(view=one.view(COMB, BITS, 13)), 'b')
        other = one + 2
        same(self, other(COMB, marking), bits_of(TURNS, COMB, marking, 2))
        same(self, other.marking(COMB, BITS), marking_by(TURNS, COMB, BITS, 2))
        deep = '+.' * 40 + '.'
        bits = other(deep, filled(TURNS, deep, '?' * 81))
        same(self, other.view(deep, bits, 60), view_of(2, deep, bits, 60, looks_of(TURNS, 2)))
        same(self, other.seen(other.view(deep, bits, 60)), other.marking(deep, bits)[60])

    def test_errors(self):
        one = Helper(TURNS, 0)
        refuses(self, 'shape', one, '+.', None)
        refuses(self, 'marking', one, '+..', 'abc')
        refuses(self, 'shape', one.marking, '+...', None)
        refuses(self, 'bits', one.marking, '+..', '11')
        refuses(self, 'shape', one.judged, '+...', None)
        faulty(self, 'shape', -1, one.judged, '+..', '11')
        faulty(self, 'turn', 0, one.judged, '+..', '011')
        faulty(self, 'region', 0, Helper(LOST, 0).judged, '+++..+..+..', '11000000100')
        refuses(self, 'shape', one.view, None, None, None)
        refuses(self, 'bits', one.view, '+..', None, None)
        refuses(self, 'place', one.view, '+..', '111', 3)
        refuses(self, 'view', one.seen, None)
        refuses(self, 'view', one.seen, ('+...', '1111', 0))
        for gap in (*ANY[:3], -1, '0', [0]):
            refuses(self, 'gap', Helper, TURNS, gap)
        for table in ANY:
            if table not in ((2, ('abb',)), (3, ('abbb',)), (2, ('abb', 'baa'))) or type(table) is not tuple:
                refuses(self, 'table', Helper, table, None)

    def test_equal_and_more(self):
        one = Helper(TURNS, 2)
        self.assertIs(one == Helper(TURNS, 2), True)
        self.assertIs(one == Helper(TURNS, 1), False)
        self.assertIs(one == Helper(UNLIKE, 2), False)
        self.assertIs(one != Helper(TURNS, 2), False)
        for thing in (*ANY, (TURNS, 2), TURNS):
            self.assertIs(one == thing, False)
        more = one + 5
        self.assertIs(type(more), Helper)
        same(self, [more.gap_now, one.gap_now, (one + 0).gap_now, (one + 10 ** 59).gap_now], [7, 2, 2, 10 ** 59 + 2])
        self.assertIs(more == Helper(TURNS, 7), True)
        for thing in ANY:
            if not is_int(thing) or thing < 0:
                refuses(self, 'more', lambda: one + thing)
        same(self, [one.table_now, one.gap_now, list(one)], [TURNS, 2, [('a', '0'), ('b', '1')]])


if __name__ == "__main__":
    unittest.main()
