"""A live wood for the tests, which is made anew from all its events each time."""

import random

from markladder.bitmarks import lets_bits
from markladder.errors import InvalidPaper
from markladder.marking import filled
from markladder.walkers import below_lots, side_lots, side_marking, walk_marking
from oracles import is_right, marks_in, places_in
from values import ref_number

CHANCE = random.Random(265)
WORDS = ('sprout', 'prune', 'bit', 'helper', 'walk', 'mark')


def is_small(thing):
    return type(thing) is str and thing != '' and all(sign in 'abcdefghijklmnopqrstuvwxyz' for sign in thing)


def ref_event(thing):
    if type(thing) is not tuple or len(thing) != 2 or type(thing[0]) is not str:
        return False
    fits = {'sprout': ref_number, 'prune': ref_number, 'bit': ref_number, 'helper': is_small,
            'walk': lambda kind: type(kind) is str and kind in ('below', 'sides'),
            'mark': lambda name: is_small(name) and len(name) <= 8}
    return thing[0] in fits and fits[thing[0]](thing[1])


class Model:
    """A wood as [9] and [114] tell of it, made anew from all its events each time."""

    def __init__(self, table, shape):
        self.table, self.begin, self.events = table, shape, []
        self.width = next(width for width in range(9) if 2 ** width >= len(marks_in(table)))
        self.codes = range(3, 2 * self.width + 2, 2)

    def turns(self, shape):
        return [told['depth'] % (2 * self.width + 3) for told in places_in(self.table[0], shape)]

    def beacon(self, shape, place):
        turns, places = self.turns(shape), places_in(self.table[0], shape)
        while turns[place] != 0:
            place = places[place]['parent']
        return place

    def plain(self, turn):
        return '1' if turn < 2 else '0'

    def first_bits(self):
        return ''.join('0' if turn in self.codes else self.plain(turn) for turn in self.turns(self.begin))

    def now(self, events=None):
        """The shape, the bits, the kind of the walker and the names."""
        shape, bits, kind, names = self.begin, self.first_bits(), None, ()
        for word, value in self.events if events is None else events:
            if word == 'sprout':
                shape, bits = self.grown(shape, bits, value)
            elif word == 'prune':
                part = places_in(self.table[0], shape)[value]['part']
                bits = bits[:value + 1] + bits[value + len(part):]
                shape = shape[:value] + '.' + shape[value + len(part):]
            elif word == 'bit':
                bits = bits[:value] + '10'[int(bits[value])] + bits[value + 1:]
            elif word == 'helper':
                marks = sorted(marks_in(self.table))
                code = lambda mark: format(marks.index(mark), 'b').zfill(self.width)
                bits = ''.join(code(value[self.beacon(shape, place)])[(turn - 3) // 2] if turn in self.codes else self.plain(turn)
                               for place, turn in enumerate(self.turns(shape)))
            elif word == 'walk':
                kind = value
            else:
                names = (*names, value)
        return shape, bits, kind, names

    def grown(self, shape, bits, place):
        many = self.table[0]
        grown = shape[:place] + '+' + '.' * many + shape[place + 1:]
        turns = self.turns(grown)
        rows = {index: bit for index, bit in zip([one for one in range(len(grown)) if not place < one <= place + many], bits)}
        for child in range(place + 1, place + 1 + many):
            alike = [one for one in sorted(rows) if not place < one <= place + many and turns[one] == turns[child]
                     and self.beacon(grown, one) == self.beacon(grown, child)]
            rows[child] = self.plain(turns[child]) if turns[child] not in self.codes else rows[alike[0]] if alike else '0'
        return grown, ''.join(rows[index] for index in range(len(grown)))

    def reason(self, event, ahead=()):
        if not ref_event(event):
            return 'shape'
        events = [*self.events, *ahead]
        shape, bits, kind, names = self.now(events)
        word, value = event
        if len(events) >= 40:
            return 'full'
        if word in ('sprout', 'prune', 'bit') and value >= len(shape):
            return 'place'
        if word == 'sprout' and shape[value] == '+' or word == 'prune' and shape[value] == '.':
            return 'kind'
        if word == 'sprout' and len(shape) + self.table[0] > 60:
            return 'great'
        if word == 'helper' and (len(value) != len(shape) or not is_right(self.table, shape, value)):
            return 'right'
        if word == 'walk' and not self.lots(value):
            return 'none'
        if word == 'mark' and value in names:
            return 'twice'
        return None

    def lots(self, kind):
        return below_lots(self.table) if kind == 'below' else side_lots(self.table)

    def walked(self):
        shape, _, kind, _ = self.now()
        if kind is None:
            return None
        lay = walk_marking if kind == 'below' else side_marking
        return lay(self.table, self.lots(kind)[0], shape)

    def cry(self):
        shape, bits, _, _ = self.now()
        try:
            lets_bits(self.table, shape, bits, 0)
        except InvalidPaper as error:
            return (error.word, error.at)
        return None


def some_event(model):
    shape = model.now()[0]
    word = CHANCE.choice(('sprout', 'sprout', 'sprout', 'prune', 'bit', 'bit', 'helper', 'walk', 'mark'))
    if word in ('sprout', 'prune', 'bit'):
        wanted = [place for place, sign in enumerate(shape) if word == 'bit' or (sign == '.') == (word == 'sprout')]
        if wanted and CHANCE.random() < 0.9:
            return word, CHANCE.choice(wanted)
        return word, CHANCE.randrange(len(shape) + 3)
    if word == 'helper':
        least = filled(model.table, shape, '?' * len(shape)) or 'a' * len(shape)
        place = CHANCE.randrange(len(shape))
        other = filled(model.table, shape, '?' * place + CHANCE.choice(marks_in(model.table)) + '?' * (len(shape) - place - 1))
        return word, CHANCE.choice([least, other or least, 'a' * len(shape), least[1:] or 'b'])
    return word, CHANCE.choice(('below', 'sides') if word == 'walk' else ('a', 'b', 'top', 'dawn'))
