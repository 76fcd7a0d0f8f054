"""Bits that tell notes, and why places say no ([107] to [109])."""

import itertools
import random
import unittest

from markladder.greatest import greatest
from markladder.notebits import bits_say, note_bits, note_width, notes_by, tree_regions, why_no
from markladder.noting import is_noted, noted
from closures import LIMITED, tags_of_row
from machines import ALL, CHECKERS, GAP, NONE, RAFT, holds, small_trees, some_tree
from oracles import places_in
from values import (ANY, EVEN, PARITY, TURNS, TWINS, ref_checker, ref_number, ref_standing, ref_tree, refuses, same)

CHANCE = random.Random(240)
# One note with each label, so that no bit is needed.
BARE = (1, ('a0', 'b5'), ('a0',), ('a0a0', 'a0b5', 'b5a0'))
BARE_TWO = (2, ('a3',), ('a3', 'b1'), ('a3a3b1', 'a3b1a3', 'b1a3a3'))
FOUR = (1, ('a0', 'a3'), ('a0', 'a5', 'b7'), ('a0a3', 'a3a5', 'a5a7', 'a7a0', 'a7b7', 'b7a3', 'b7b7'))
USED = [PARITY, BARE, BARE_TWO, FOUR, *[greatest(machine) for machine in (GAP, TWINS, RAFT, ALL)],
        *[checker for checker in CHECKERS if checker[3]][:50]]


def notes_with(checker, label):
    tags = {tag for text in [*checker[1], *checker[2], *checker[3]] for tag in tags_of_row(text)}
    return sorted(tag[1] for tag in tags if tag[0] == label)


def width_of(checker):
    most = max([len(notes_with(checker, label)) for label in 'abcdefghijklmnopqrstuvwxyz'])
    return next(width for width in range(9) if 2 ** width >= most)


class Laid:
    """A tree by a checker and a gap, place by place."""

    def __init__(self, checker, tree, gap):
        self.checker, self.tree, self.gap, self.width = checker, tree, gap, width_of(checker)
        self.places = places_in(checker[0], tree)
        self.period = 2 * self.width + 3 + gap
        self.turns = [told['depth'] % self.period for told in self.places]
        self.beacons = []
        for place, told in enumerate(self.places):
            up = place
            while self.turns[up] != 0:
                up = self.places[up]['parent']
            self.beacons.append(up)
        self.readable = [place for place, told in enumerate(self.places)
                         if self.turns[place] == 0 and told['height'] >= 2 * self.width + 1]
        self.codes = range(3, 2 * self.width + 2, 2)

    def regions(self):
        found = []
        for top in sorted({0, *self.readable}):
            places, waiting = [top], list(self.places[top]['children'])
            while waiting:
                place = waiting.pop()
                places.append(place)
                if place not in self.readable:
                    waiting.extend(self.places[place]['children'])
            found.append((top, tuple(sorted(places))))
        return tuple(found)

    def bits(self, notes):
        codes = [format(notes_with(self.checker, sign.lower()).index(note), 'b').zfill(self.width)
                 for sign, note in zip(self.tree, notes)]
        return ''.join(self.bit(place, lambda beacon, k: codes[beacon][k]) for place in range(len(self.tree)))

    def bit(self, place, code):
        turn = self.turns[place]
        if turn in self.codes:
            return code(self.beacons[place], (turn - 3) // 2)
        return '1' if turn < 2 else '0'

    def firsts(self, bits, beacon):
        """For each turn of codes the first place there, in order, of which this is the nearest beacon above."""
        return [next(place for place in range(len(bits)) if self.turns[place] == turn and self.beacons[place] == beacon)
                for turn in self.codes]

    def told(self, bits):
        found = {}
        for beacon in self.readable:
            index = int('0' + ''.join(bits[place] for place in self.firsts(bits, beacon)), 2)
            notes = notes_with(self.checker, self.tree[beacon].lower())
            found[beacon] = notes[index] if index < len(notes) else None
        return found

    def reasons(self, bits):
        told = self.told(bits)
        regions = dict(self.regions())
        found = []
        for place, turn in enumerate(self.turns):
            alike = [one for one in range(place + 1) if self.turns[one] == turn and self.beacons[one] == self.beacons[place]]
            if turn not in self.codes and bits[place] != self.bit(place, None):
                found.append('turn')
            elif turn in self.codes and bits[place] != bits[alike[0]]:
                found.append('code')
            elif place in told and told[place] is None:
                found.append('note')
            elif place in regions and not self.can_be_noted(place, regions[place], told):
                found.append('region')
            else:
                found.append(None)
        return found

    def can_be_noted(self, top, places, told):
        """Tries all notes of the places of a region."""
        ends = [place for place in places if place in told and place != top]
        choices = [[told[place]] if place in told else notes_with(self.checker, self.tree[place].lower()) for place in places]
        _, tops, leaves, rows = self.checker
        for notes in itertools.product(*choices):
            tags = {place: self.tree[place].lower() + (note or '?') for place, note in zip(places, notes)}
            if top == 0 and tags[0] not in tops:
                continue
            below = lambda place: ''.join(tags[child] for child in self.places[place]['children'])
            if all(tags[place] + below(place) in rows if self.places[place]['children'] else tags[place] in leaves
                   for place in places if place not in ends):
                return True
        return False

    def size(self):
        """How many notes can_be_noted tries at the most."""
        size = 1
        for sign in self.tree:
            size *= max(1, len(notes_with(self.checker, sign.lower())))
        return size


def some_cases(most):
    """Triples of a checker, a tree and a gap; among all trees there are high ones."""
    found = []
    for checker in USED:
        labels = sorted({text[0] for text in [*checker[2], *[row for row in checker[3]]]})
        trees = [some_tree(CHANCE, checker[0], labels, forks) for forks in range(1, 14 if checker[0] == 1 else 6) for _ in range(2)]
        trees += [tree for tree in high_trees(checker[0], labels)] + CHANCE.sample(small_trees(checker[0], ''.join(labels)), 5)
        trees += [some_tree(CHANCE, checker[0], [*labels, 'z'], 4)]
        for tree in trees:
            laid = Laid(checker, tree, CHANCE.choice((0, 0, 0, 1, 4)))
            if laid.size() <= most:
                found.append(laid)
    return found


def high_trees(many, labels):
    """Trees that are a stretch of places, so that they have several regions."""
    found = []
    for steps in range(5, 17):
        label = lambda: CHANCE.choice(labels)
        if many == 1:
            found.append(''.join(label().upper() for _ in range(steps)) + label())
        else:
            found.append(''.join(label().upper() + label() for _ in range(steps)) + label())
    return found


CASES = some_cases(700)


def right_notes(laid):
    """Some right notes for the tree, None if there are none."""
    least = noted(laid.checker, laid.tree)
    if least is None:
        return None
    notes = '?' * len(laid.tree)
    for place in CHANCE.sample(range(len(notes)), min(4, len(notes))):
        other = notes[:place] + CHANCE.choice(notes_with(laid.checker, laid.tree[place].lower())) + notes[place + 1:]
        notes = other if noted(laid.checker, laid.tree, other) else notes
    return noted(laid.checker, laid.tree, notes)


def some_bits(laid):
    """Bits by notes, bits that tell other codes, and such with a few turned."""
    notes = right_notes(laid)
    texts = [''.join(CHANCE.choice('01') for _ in laid.tree)]
    for _ in range(4):
        codes = [''.join(CHANCE.choice('01') for _ in range(laid.width)) for _ in laid.tree]
        texts.append(''.join(laid.bit(place, lambda beacon, k: codes[beacon][k]) for place in range(len(laid.tree))))
    if notes is not None:
        texts.append(laid.bits(notes))
    for text in list(texts[1:]):
        place = CHANCE.randrange(len(text))
        texts.append(text[:place] + '10'[int(text[place])] + text[place + 1:])
    return texts


class NoteBitsTest(unittest.TestCase):
    def test_note_width(self):
        widths = set()
        for checker in USED + CHECKERS:
            same(self, note_width(checker), width_of(checker))
            widths.add(note_width(checker))
        self.assertTrue({0, 1, 2} <= widths)
        same(self, note_width(checker=PARITY), 1)
        same(self, [note_width((1, (), (), ())), note_width(BARE), note_width(FOUR)], [0, 0, 2])
        tags = tuple('a' + str(note) for note in range(9))
        same(self, [note_width((1, tags[:count], (), ())) for count in range(1, 10)], [0, 1, 2, 2, 3, 3, 3, 3, 4])
        # The label with the most notes counts.
        same(self, note_width((2, ('a0', 'b0', 'b1', 'b2'), (), ('a0a0c0',))), 2)

    def test_note_bits_and_regions(self):
        several = 0
        for laid in CASES:
            same(self, tree_regions(laid.checker, laid.tree, laid.gap), laid.regions())
            several += len(laid.regions()) > 2
            notes = right_notes(laid)
            if notes is not None:
                self.assertTrue(is_noted(laid.checker, laid.tree, notes))
                bits = note_bits(laid.checker, laid.tree, notes, laid.gap)
                same(self, bits, laid.bits(notes))
                same(self, bits_say(laid.checker, laid.tree, bits, laid.gap), ())
                found = notes_by(laid.checker, laid.tree, bits, laid.gap)
                self.assertTrue(all(found[beacon] == notes[beacon] for beacon in laid.readable))
        self.assertTrue(several > 30, several)
        same(self, note_bits(checker=PARITY, tree='BBBBBABBBa', notes='0000001111', gap=0), '1100011000')
        same(self, tree_regions(checker=PARITY, tree='BBBBBABBBa', gap=0), ((0, (0, 1, 2, 3, 4, 5)), (5, (5, 6, 7, 8, 9))))
        same(self, tree_regions(PARITY, 'a', 0), ((0, (0,)),))
        same(self, tree_regions(PARITY, 'BBBBBABBBa', 7), ((0, tuple(range(10))),))

    def test_notes_by(self):
        nones = 0
        for laid in CASES:
            everything = None
            for bits in some_bits(laid):
                told = laid.told(bits)
                if everything is None:
                    digits = [notes_with(laid.checker, sign.lower()) for sign in laid.tree]
                    everything = [''.join(notes) for notes in itertools.product(*digits)
                                  if is_noted(laid.checker, laid.tree, ''.join(notes))]
                right = [notes for notes in everything if all(notes[beacon] == note for beacon, note in told.items())]
                least = min(right, default=None) if None not in told.values() else None
                same(self, notes_by(laid.checker, laid.tree, bits, laid.gap), least)
                nones += least is None
        self.assertTrue(nones > 100)
        same(self, notes_by(checker=PARITY, tree='BBBBBABBBa', bits='1100011000', gap=0), '0000001111')
        same(self, notes_by(PARITY, 'BBBBBABBBa', '1101011000', 0), None)

    def test_reasons(self):
        seen, both = {}, set()
        for laid in CASES:
            for bits in some_bits(laid):
                reasons = laid.reasons(bits)
                said = tuple(place for place, reason in enumerate(reasons) if reason)
                same(self, bits_say(laid.checker, laid.tree, bits, laid.gap), said)
                for place in {*said, CHANCE.randrange(len(bits)), 0}:
                    same(self, why_no(laid.checker, laid.tree, bits, laid.gap, place), reasons[place])
                for reason in reasons:
                    seen[reason] = seen.get(reason, 0) + 1
                if not {'turn', 'code'} & {*reasons}:
                    told = notes_by(laid.checker, laid.tree, bits, laid.gap)
                    self.assertEqual(told is None, said != ())
                    both.add(told is None)
        self.assertTrue(min(seen.values()) > 15 and len(seen) == 5 and both == {True, False}, seen)
        same(self, [bits_say(PARITY, 'BBBBBABBBa', bits, 0) for bits in ('1100011000', '1101011000', '1100011010', '1000011000')],
             [(), (0,), (0, 5), (1,)])
        same(self, bits_say(checker=PARITY, tree='a', bits='1', gap=0), (0,))
        same(self, why_no(checker=PARITY, tree='a', bits='1', gap=0, place=0), 'region')

    def test_each_reason_ahead_of_the_later_ones(self):
        tree = 'BBBBBABBBa'
        # Place 0 says turn although its region cannot be noted; place 5 likewise.
        same(self, [why_no(PARITY, tree, bits, 0, 0) for bits in ('1101011000', '0101011000')], ['region', 'turn'])
        same(self, [why_no(PARITY, tree, bits, 0, 5) for bits in ('1100011010', '1100001010')], ['region', 'turn'])
        # Two places of one turn below one beacon.
        fork = (2, ('a0', 'a1'), ('a0', 'a1'), ('a0a0a1', 'a0a1a0', 'a1a1a0'))
        shape = 'AaAaAAaaAaa'
        laid = Laid(fork, shape, 0)
        codes = [place for place in range(len(shape)) if laid.turns[place] == 3]
        self.assertEqual(len(codes), 2)
        bits = ''.join(laid.bit(place, lambda beacon, k: '1') for place in range(len(shape)))
        other = bits[:codes[1]] + '0' + bits[codes[1] + 1:]
        same(self, [why_no(fork, shape, other, 0, place) for place in codes], [None, 'code'])

    def test_codes_below_unlike_children(self):
        # The top is the nearest beacon above of places of turn 3 below both of its children.
        fork, tree = (2, ('a0', 'a1'), ('a0', 'a1'), ('a0a0a1', 'a0a1a0', 'a1a1a0')), 'AAAaaaAAaaa'
        places = [place for place, turn in enumerate(Laid(fork, tree, 0).turns) if turn == 3]
        self.assertEqual(places, [3, 4, 8, 9])
        for place in places[1:]:
            bits = ''.join('1' if index == place else bit for index, bit in enumerate('11000010000'))
            same(self, [spot for spot in places if why_no(fork, tree, bits, 0, spot) == 'code'], [place])
        same(self, [why_no(fork, tree, '11010010000', 0, spot) for spot in places], [None, 'code', 'code', 'code'])

    def test_a_note_that_is_told_of_none(self):
        # Three notes have a code of two bits, the fourth one is no note's; c has no notes at all.
        checker = (1, ('a0', 'a1', 'a2'), ('a0',), ('a0a0', 'a1a1', 'a2a2'))
        tree = 'A' * 7 + 'A' * 6 + 'a'
        laid = Laid(checker, tree, 0)
        self.assertEqual(laid.readable, [0, 7])
        bits = lambda code: ''.join(laid.bit(place, lambda beacon, k: code[beacon][k]) for place in range(14))
        same(self, laid.reasons(bits({0: '00', 7: '11'})), [None if place not in (0, 7) else ['region', 'note'][place // 7] for place in range(14)])
        same(self, bits_say(checker, tree, bits({0: '00', 7: '11'}), 0), (0, 7))
        same(self, [why_no(checker, tree, bits({0: '00', 7: '11'}), 0, place) for place in (0, 1, 7)], ['region', None, 'note'])
        same(self, why_no(checker, tree, bits({0: '11', 7: '00'}), 0, 0), 'note')
        same(self, why_no(checker, tree, bits({0: '11', 7: '00'}), 0, 7), None)
        same(self, notes_by(checker, tree, bits({0: '00', 7: '11'}), 0), None)
        same(self, notes_by(checker, tree, bits({0: '00', 7: '00'}), 0), '0' * 14)
        other = 'C' * 13 + 'c'
        same(self, why_no(checker, other, bits({0: '00', 7: '00'}), 0, 0), 'note')
        same(self, notes_by(checker, other, bits({0: '00', 7: '00'}), 0), None)

    def test_consequences(self):
        """There are right notes exactly if by some bits no place says no: all bits are tried."""
        seen = set()
        for machine in [EVEN, GAP, RAFT, NONE, TWINS] + LIMITED[20:40]:
            checker = greatest(machine)
            for tree in CHANCE.sample([tree for tree in small_trees(machine[0], machine[1]) if len(tree) < 8], 5):
                texts = [''.join(bits) for bits in itertools.product('01', repeat=len(tree))]
                found = any(bits_say(checker, tree, bits, 0) == () for bits in texts)
                self.assertEqual(found, holds(machine, tree))
                seen.add(found)
        self.assertEqual(seen, {True, False})

    def test_four_hundred_signs(self):
        # More than the limit asks for.
        tree = 'B' * 299 + 'A' + 'B' * 99 + 'a'
        notes = noted(PARITY, tree)
        bits = note_bits(PARITY, tree, notes, 0)
        same(self, bits, Laid(PARITY, tree, 0).bits(notes))
        same(self, [bits_say(PARITY, tree, bits, 0), notes_by(PARITY, tree, bits, 0)], [(), notes])
        wrong = bits[:103] + '10'[int(bits[103])] + bits[104:]
        self.assertEqual([why_no(PARITY, tree, wrong, 0, place) for place in bits_say(PARITY, tree, wrong, 0)], ['region'] * 2)

    def test_refused(self):
        bits_for = lambda size: lambda thing: type(thing) is str and len(thing) == size and set(thing) <= {*'01'}
        for thing in ANY:
            if not ref_checker(thing):
                refuses(self, 'checker', note_width, thing)
                refuses(self, 'checker', note_bits, thing, None, None, None)
                refuses(self, 'checker', tree_regions, thing, None, None)
                refuses(self, 'checker', notes_by, thing, None, None, None)
                refuses(self, 'checker', bits_say, thing, None, None, None)
                refuses(self, 'checker', why_no, thing, None, None, None, None)
            if not ref_tree(1, thing):
                refuses(self, 'tree', note_bits, PARITY, thing, None, None)
                refuses(self, 'tree', tree_regions, PARITY, thing, None)
                refuses(self, 'tree', notes_by, PARITY, thing, None, None)
                refuses(self, 'tree', bits_say, PARITY, thing, None, None)
                refuses(self, 'tree', why_no, PARITY, thing, None, None, None)
            if thing != '01':
                refuses(self, 'notes', note_bits, PARITY, 'Aa', thing, None)
            if not bits_for(2)(thing):
                refuses(self, 'bits', notes_by, PARITY, 'Aa', thing, None)
                refuses(self, 'bits', bits_say, PARITY, 'Aa', thing, None)
                refuses(self, 'bits', why_no, PARITY, 'Aa', thing, None, None)
            if not ref_number(thing):
                refuses(self, 'gap', note_bits, PARITY, 'Aa', '01', thing)
                refuses(self, 'gap', tree_regions, PARITY, 'Aa', thing)
                refuses(self, 'gap', notes_by, PARITY, 'Aa', '11', thing)
                refuses(self, 'gap', bits_say, PARITY, 'Aa', '11', thing)
                refuses(self, 'gap', why_no, PARITY, 'Aa', '11', thing, None)
            if not ref_standing(2)(thing):
                refuses(self, 'place', why_no, PARITY, 'Aa', '11', 0, thing)
        for notes in ('10', '11', '0', '0?', '??', '011', ('0', '1'), '00'):
            refuses(self, 'notes', note_bits, checker=PARITY, tree='Aa', notes=notes, gap=0)
        refuses(self, 'tree', bits_say, PARITY, 'Aab', '111', 0)
        refuses(self, 'tree', bits_say, (2, (), (), ()), 'Aa', '11', 0)
        self.assertNotEqual(TURNS, PARITY)


if __name__ == "__main__":
    unittest.main()
