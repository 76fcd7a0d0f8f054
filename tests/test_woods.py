"""Events and logs by form, and live woods ([114], [115])."""

import itertools
import random
import unittest

from markladder.bitmarks import marking_by
from markladder.changes import sprouted
from markladder.errors import InvalidEvent, LadderError, LiveError, NothingToUndo
from markladder.marking import filled, is_right
from markladder.woodevents import is_event, is_log
from markladder.woods import Wood, replayed
from oracles import some_shape, some_tables
from values import (ANY, DIST, LOST, SIDED, STEPS, THREES, TURNS, UNLIKE, ref_number, ref_shape, ref_table, refuses, same)
from woodmodel import WORDS, Model, ref_event, some_event

CHANCE = random.Random(260)
class EventsTest(unittest.TestCase):
    def test_is_event(self):
        for thing in ANY:
            self.assertIs(is_event(thing), False)
        for word in (*WORDS, 'Sprout', 'cry', 'undo', '', 0, None, ('bit',), True):
            for value in (*ANY, 'below', 'sides', 'q' * 8, 'q' * 9, 'x1', 'aB'):
                self.assertIs(is_event((word, value)), ref_event((word, value)), (word, value))
                self.assertIs(is_event([word, value]), False)
                self.assertIs(is_event((word, value, value)), False)
        for event in (('sprout', 0), ('prune', 10 ** 59), ('bit', 5), ('helper', 'z' * 6000), ('walk', 'below'), ('walk', 'sides'),
                      ('mark', 'a'), ('mark', 'abcdefgh')):
            self.assertIs(is_event(thing=event), True)
        for event in (('sprout', True), ('sprout', -1), ('bit', '0'), ('helper', ''), ('helper', 'a?'), ('walk', 'side'), ('mark', ''),
                      ('mark', 'abcdefghi'), ('mark', 'A'), ('walk',), ('mark', ('a',))):
            self.assertIs(is_event(event), False)

    def test_is_log(self):
        begin = ('wood', TURNS, '+..')
        events = (('sprout', 99), ('bit', 0), ('mark', 'a'), ('mark', 'a'), ('walk', 'sides'), ('helper', 'zz'))
        same(self, [is_log(thing=(begin,)), is_log((begin, *events)), is_log((begin, *events * 30))], [True, True, True])
        same(self, is_log((('wood', THREES, '+...'),)), True)
        for thing in (*ANY, begin, [begin], (begin, None), (begin, ('bit', -1)), (begin, *events, ('bit', True)), (events[0], begin),
                      (('wood', TURNS, '+...'),), (('wood', TURNS, ''),), (('wood', TURNS),), (('wood', TURNS, '.', '.'),),
                      (['wood', TURNS, '.'],), (('Wood', TURNS, '.'),), (('wood', list(TURNS), '.'),), (begin, begin), ((begin, events),),
                      (('wood', THREES, '+..'),), (begin, list(events[1])), events):
            self.assertIs(is_log(thing), False)


STARTS = [(TURNS, '+..'), (UNLIKE, '.'), (LOST, '.'), (SIDED, '++...'), (DIST, '.'), (THREES, '+...'), (STEPS, '.'), (TURNS, '+.' * 8 + '.')]
STARTS += [(table, CHANCE.choice(('.', some_shape(CHANCE, table[0], 6)))) for table in some_tables(261, 14, 'abc')]


def refused(case, event, reason, function, *arguments, **named):
    with case.assertRaises(InvalidEvent) as caught:
        function(*arguments, **named)
    case.assertIsInstance(caught.exception, LiveError)
    case.assertIsInstance(caught.exception, LadderError)
    same(case, (caught.exception.event, caught.exception.reason), (event, reason))


def call(wood, event, way):
    """Lets an event happen in one of the ways that there are."""
    if way == 0:
        return wood.happen(event)
    if way == 1:
        return vars(Wood)[event[0]](wood, event[1])
    if way == 2:
        wood += event
        return wood.cry_now
    wood.do_all(event)
    return wood.cry_now


def read_off(wood):
    return (wood.table_now, wood.shape_now, wood.bits_now, wood.cry_now, wood.laid_now, wood.kind_now, wood.walked_now,
            wood.names_now, wood.log(), list(wood), len(wood))


class WoodsTest(unittest.TestCase):
    def check(self, wood, model):
        shape, bits, kind, names = model.now()
        laid, walked = marking_by(model.table, shape, bits, 0), model.walked()
        begin = ('wood', model.table, model.begin)
        same(self, read_off(wood), (model.table, shape, bits, model.cry(), laid, kind, walked, tuple(sorted(names)),
                                    (begin, *model.events), model.events, len(shape)))
        for place in {0, len(shape) - 1, CHANCE.randrange(len(shape))}:
            same(self, wood[place], (bits[place], laid[place] if laid else '?', walked[place] if walked else '?'))
        same(self, [name in wood for name in ('a', 'b', 'top', 'dawn', 'x')], [name in names for name in ('a', 'b', 'top', 'dawn', 'x')])

    def test_many_events(self):
        reasons = {}
        for table, shape in STARTS:
            wood, model = Wood(table, shape), Model(table, shape)
            self.check(wood, model)
            calls = 0
            for _ in range(35):
                event = some_event(model)
                reason = model.reason(event)
                same(self, wood.barred(event), reason)
                way = CHANCE.randrange(4)
                calls += 1
                if reason is None:
                    model.events.append(event)
                    same(self, call(wood, event, way), wood.cry_now)
                else:
                    refused(self, event, reason, call, wood, event, way)
                reasons[reason] = reasons.get(reason, 0) + 1
                if CHANCE.random() < 0.12 and model.events:
                    same(self, wood.undo(), model.events.pop())
                    calls += 1
                same(self, wood.counts(), (calls, calls))
                if CHANCE.random() < 0.3:
                    self.check(wood, model)
            self.check(wood, model)
            again = replayed(wood.log())
            self.assertTrue(again == wood and type(again) is Wood)
            same(self, [read_off(again), again.counts()], [read_off(wood), (0, 0)])
            self.check(again, model)
        self.assertEqual({*reasons} | {'great', 'full'}, {None, 'full', 'place', 'kind', 'great', 'right', 'none', 'twice'}, reasons)

    def test_example(self):
        wood = Wood(UNLIKE, '.')
        same(self, [wood.sprout(0), wood.walk('below'), wood.laid_now, wood.walked_now, wood[1], wood.bit(2)],
             [None, None, 'abb', 'baa', ('1', 'b', 'a'), ('turn', 2)])
        same(self, [wood.barred(('helper', 'aab')), wood.tried(('helper', 'cab')), wood.undo(), wood.counts()],
             ['right', ('+..', '111'), ('bit', 2), (4, 4)])

    def test_bits_of_new_places(self):
        # TURNS has codes of one bit, at turn 3; the period is 5.
        wood = Wood(TURNS, '+' * 3 + '.' * 4)
        same(self, [wood.shape_now, wood.bits_now], ['+++....', '1100001'])
        wood.bit(3)
        wood.sprout(4)
        # Place 3 is the first place of turn 3 below the top.
        same(self, [wood.shape_now, wood.bits_now], ['++++...'[:3] + '.+....', '110' + '10' + '00' + '01'])
        wood.sprout(8)
        wood.sprout(9)
        same(self, [wood.shape_now, wood.bits_now], ['+++.+...++...', '1101000010110'])

    def test_bits_of_new_beacons(self):
        # Five steps below the top the turns begin again.
        wood = Wood(TURNS, '+.+.+.+..')
        wood.sprout(8)
        same(self, wood.bits_now, '11100000011')
        wood.sprout(10)
        same(self, wood.bits_now, '1110000001111')
        single = Wood((2, ('aaa',)), '.')
        for place in range(0, 10, 2):
            single.sprout(place)
        same(self, single.bits_now, '1' + '11' + '00' + '11' + '11' + '00')

    def test_codes_of_unlike_beacons(self):
        # The new places are of turn 3, below the beacon at depth 5; place 5, of turn 3 too, is below the top.
        wood = Wood(TURNS, '+.' * 7 + '.')
        wood.bit(5)
        wood.bit(6)
        wood.sprout(14)
        same(self, wood.bits_now, '11100' + '11' + '00' + '11' + '11' + '00' + '00')
        wood.undo()
        wood.sprout(3)
        same(self, wood.bits_now, '1110' + '11' + '0' + '11' + '00' + '11' + '11' + '00')

    def test_starts(self):
        for table, shape in STARTS:
            wood = Wood(table=table, shape=shape)
            self.check(wood, Model(table, shape))
            same(self, [wood.counts(), wood.log(), list(wood), wood.names_now], [(0, 0), (('wood', table, shape),), [], ()])
            self.assertIsNone(wood.kind_now or wood.walked_now)
        same(self, Wood.MOST, 40)
        same(self, Wood(TURNS, '.').MOST, 40)

    def test_reasons_in_order(self):
        wood = Wood(TURNS, '+..')
        for event in (('sprout', -1), ('sprout',), ['sprout', 1], None, ('walk', 'up'), ('mark', 'abcdefghi'), ('helper', 'a?b'), ('bit', True)):
            same(self, wood.barred(event=event), 'shape')
            refused(self, event, 'shape', wood.happen, event)
        for event in (('sprout', 3), ('prune', 3), ('bit', 10 ** 50)):
            same(self, wood.barred(event), 'place')
        same(self, [wood.barred(('sprout', 0)), wood.barred(('prune', 2)), wood.barred(('bit', 2))], ['kind', 'kind', None])
        for marking in ('a', 'abbb', 'aab', 'acc', 'aaa', 'zbb'):
            same(self, wood.barred(('helper', marking)), 'right')
        same(self, [wood.barred(('walk', 'below')), wood.barred(('walk', 'sides'))], ['none', 'none'])
        same(self, [Wood(SIDED, '.').barred(('walk', kind)) for kind in ('below', 'sides')], ['none', None])
        wood.mark('a')
        same(self, [wood.barred(('mark', 'a')), wood.barred(('mark', 'b'))], ['twice', None])
        wood.undo()
        same(self, wood.barred(('mark', 'a')), None)

    def test_sixty_places(self):
        wood = Wood(TURNS, '+.' * 29 + '.')
        same(self, [len(wood), wood.barred(('sprout', 1)), wood.barred(('sprout', 0)), wood.barred(('bit', 58))], [59, 'great', 'kind', None])
        wood.prune(56)
        same(self, [len(wood), wood.barred(('sprout', 1))], [57, None])
        wood.sprout(1)
        same(self, [len(wood), wood.barred(('sprout', 2))], [59, 'great'])
        three = Wood(THREES, '+..' * 19 + '.')
        same(self, [len(three), three.barred(('sprout', 1))], [58, 'great'])
        three.prune(54)
        three.sprout(1)
        same(self, len(three), 58)

    def test_more_than_sixty_places_from_the_beginning(self):
        wood = Wood(TURNS, '+.' * 40 + '.')
        same(self, [len(wood), wood.barred(('sprout', 1)), wood.barred(('bit', 80))], [81, 'great', None])
        wood.do_all(('bit', 80), ('prune', 70), ('helper', filled(TURNS, '+.' * 35 + '.', '?' * 71)))
        same(self, [len(wood), wood.cry_now, is_right(TURNS, wood.shape_now, wood.laid_now)], [71, None, True])

    def test_forty_events(self):
        wood = Wood(UNLIKE, '.')
        for _ in range(40):
            wood.bit(0)
        for event in (('bit', 0), ('bit', 9), ('sprout', 0), ('prune', 0), ('helper', 'zz'), ('walk', 'below'), ('mark', 'a')):
            same(self, wood.barred(event), 'full')
            refused(self, event, 'full', wood.happen, event)
            refused(self, event, 'full', wood.tried, event)
        same(self, wood.barred(('bit', -1)), 'shape')
        same(self, wood.undo(), ('bit', 0))
        same(self, wood.barred(('bit', 9)), 'place')
        refused(self, ('bit', 1), 'full', wood.tried, ('sprout', 0), ('bit', 1))
        refused(self, ('bit', 7), 'place', wood.tried, ('bit', 7), ('bit', 1))
        wood.sprout(0)
        same(self, len(wood.log()), 41)
        log = (*wood.log(), ('bit', 0))
        refused(self, ('bit', 0), 'full', replayed, log)

    def test_tried(self):
        for table, shape in STARTS:
            wood, model = Wood(table, shape), Model(table, shape)
            for _ in range(6):
                ahead = []
                for _ in range(CHANCE.randint(0, 6)):
                    other = Model(table, shape)
                    other.events = [*model.events, *[one for one in ahead if one is not None]]
                    event = some_event(other)
                    ahead.append(event)
                    if other.reason(event) is not None:
                        break
                kept = read_off(wood), wood.counts()
                reason = model.reason(ahead[-1], ahead[:-1]) if ahead else None
                if reason is None:
                    same(self, wood.tried(*ahead), model.now([*model.events, *ahead])[:2])
                    same(self, wood.do_all(*ahead), len(ahead))
                    model.events.extend(ahead)
                else:
                    refused(self, ahead[-1], reason, wood.tried, *ahead)
                    same(self, (read_off(wood), wood.counts()), kept)
                    refused(self, ahead[-1], reason, wood.do_all, *ahead)
                    same(self, read_off(wood), kept[0])
                    refused(self, ahead[-1], reason, wood.do_all, *ahead, ('bit', 0), keep=True)
                    model.events.extend(ahead[:-1])
                self.check(wood, model)
        same(self, Wood(TURNS, '.').tried(), ('.', '1'))

    def test_do_all(self):
        wood = Wood(TURNS, '.')
        same(self, [wood.do_all(), wood.do_all(('sprout', 0), ('mark', 'a'), keep=False), wood.counts()], [0, 2, (2, 2)])
        refused(self, ('mark', 'a'), 'twice', wood.do_all, ('bit', 1), ('mark', 'a'), ('bit', 2))
        same(self, [wood.bits_now, wood.counts()], ['111', (3, 3)])
        refused(self, ('mark', 'a'), 'twice', wood.do_all, ('bit', 1), ('mark', 'a'), ('bit', 2), keep=True)
        same(self, [wood.bits_now, wood.log()[1:], wood.counts()], ['101', (('sprout', 0), ('mark', 'a'), ('bit', 1)), (4, 4)])
        refused(self, None, 'shape', wood.do_all, None, keep=True)
        same(self, wood.do_all(('bit', 1), keep=True), 1)
        calls = 6
        for thing in ANY:
            if type(thing) is not bool:
                refuses(self, 'keep', wood.do_all, ('bit', 0), keep=thing)
                refuses(self, 'keep', wood.do_all, None, keep=thing)
                calls += 2
        same(self, [wood.counts(), wood.bits_now, len(wood.log())], [(calls, calls), '111', 5])

    def test_undo(self):
        wood = Wood(SIDED, '++...')
        before = []
        for event in (('walk', 'sides'), ('bit', 0), ('prune', 1), ('mark', 'a'), ('sprout', 2), ('helper', filled(SIDED, '+.+..', '?????'))):
            before.append(read_off(wood))
            wood.happen(event)
        while before:
            event = wood.log()[-1]
            same(self, wood.undo(), event)
            same(self, read_off(wood), before.pop())
        with self.assertRaises(NothingToUndo) as caught:
            wood.undo()
        self.assertIsInstance(caught.exception, LiveError)
        same(self, [caught.exception.steps, wood.counts()], [0, (13, 13)])

    def test_since(self):
        wood = Wood(TURNS, '.')
        wood.do_all(('bit', 0), ('mark', 'a'), ('sprout', 0), ('mark', 'bb'), ('bit', 1), ('prune', 0))
        same(self, [wood.since(name='a'), wood.since('bb')], [wood.log()[3:], (('bit', 1), ('prune', 0))])
        wood.mark('c')
        same(self, [wood.since('c'), wood.names_now, list(wood)], [(), ('a', 'bb', 'c'), list(wood.log()[1:])])
        for thing in (*ANY, 'd', 'mark', ('mark', 'a')):
            if thing not in ('a', 'c'):
                refuses(self, 'name', wood.since, thing)
                self.assertIs(thing in wood, False)
        wood.do_all(*[('bit', 0)] * 3)
        for _ in range(4):
            wood.undo()
        refuses(self, 'name', wood.since, 'c')

    def test_equal(self):
        one, other = Wood(TURNS, '+..'), Wood(TURNS, '+..')
        self.assertTrue(one == other and not one != other)
        one.bit(0)
        self.assertTrue(one != other and not one == other)
        one.bit(0)
        # They look alike, but the events are others.
        self.assertEqual((one.shape_now, one.bits_now, one == other), (other.shape_now, other.bits_now, False))
        one.undo()
        one.undo()
        self.assertTrue(one == other)
        self.assertFalse(Wood(TURNS, '.') == Wood(TURNS, '+..') or Wood(TURNS, '.') == Wood(UNLIKE, '.'))
        for thing in ANY:
            self.assertIs(one == thing, False)
        self.assertIs(one == one.log(), False)

    def test_refused(self):
        for thing in ANY:
            if not ref_table(thing):
                refuses(self, 'table', Wood, thing, None)
            if not ref_shape(2, thing):
                refuses(self, 'shape', Wood, TURNS, thing)
            refuses(self, 'log', replayed, thing)
        refuses(self, 'shape', Wood, THREES, '+..')
        refuses(self, 'log', replayed, log=[('wood', TURNS, '.')])
        refused(self, ('bit', 1), 'place', replayed, (('wood', TURNS, '.'), ('bit', 0), ('bit', 1), ('bit', 2)))
        wood = Wood(TURNS, '+..')
        for thing in (*ANY, 3, -1, True, '0', (0,)):
            if not ref_number(thing) or thing > 2:
                refuses(self, 'place', lambda: wood[thing])
        for name, thing in itertools.product(WORDS, ANY):
            event = (name, thing)
            if not ref_event(event):
                refused(self, event, 'shape', vars(Wood)[name], wood, thing)
        self.assertEqual(wood.log(), (('wood', TURNS, '+..'),))

    def test_events_are_kept_as_they_are(self):
        event = ('helper', 'ab', ['x'])
        wood = Wood(TURNS, '.')
        try:
            wood.happen(event)
        except InvalidEvent as error:
            self.assertIs(error.event, event)
        try:
            wood.do_all(('bit', 0), event)
        except InvalidEvent as error:
            self.assertIs(error.event, event)

    def test_events_by_name(self):
        wood = Wood(shape='.', table=UNLIKE)
        wood.happen(event=('sprout', 0))
        wood.prune(place=0)
        wood.sprout(place=0)
        wood.bit(place=1)
        wood.walk(kind='sides')
        wood.helper(marking='abc')
        wood.mark(name='x')
        same(self, [wood.counts(), wood.names_now, wood.laid_now], [(7, 7), ('x',), 'abb'])

    def test_iterated_while_events_happen(self):
        wood = Wood(TURNS, '.')
        wood.do_all(('bit', 0), ('bit', 0))
        for event in wood:
            wood.happen(event)
        same(self, [len(list(wood)), len(wood), bool(wood)], [4, 1, True])

    def test_consequences(self):
        for table, shape in STARTS:
            wood, model = Wood(table, shape), Model(table, shape)
            for _ in range(20):
                event = some_event(model)
                if wood.barred(event) is None:
                    wood.happen(event)
                    model.events.append(event)
                    if event[0] == 'helper':
                        self.assertTrue(wood.cry_now is None and is_right(table, wood.shape_now, wood.laid_now))
                if wood.cry_now is None:
                    self.assertTrue(is_right(table, wood.shape_now, wood.laid_now))
                if wood.walked_now is not None:
                    self.assertTrue(is_right(table, wood.shape_now, wood.walked_now))
                # Right behind sprout prune takes it back.
                leaf = wood.shape_now.find('.')
                if wood.barred(('sprout', leaf)) is None and len(wood.log()) < 40:
                    same(self, wood.tried(('sprout', leaf), ('prune', leaf)), (wood.shape_now, wood.bits_now))
                    same(self, wood.tried(('sprout', leaf))[0], sprouted(table[0], wood.shape_now, leaf))


if __name__ == "__main__":
    unittest.main()
