"""Lines of events and logs, there and back ([116], [117]), and desks ([118])."""

import random
import unittest

from markladder.desk import Desk
from markladder.errors import InvalidEvent, InvalidRow, InvalidText, NothingToUndo, NotUsable, TextError
from markladder.texts import table_line
from markladder.woodtexts import event_line, log_lines, read_event, read_log
from markladder.woods import Wood, replayed
from oracles import some_tables
from values import ANY, DIST, LOST, SIDED, THREES, TURNS, UNLIKE, ref_row, ref_shape, ref_table, refuses, same
from woodmodel import WORDS, Model, is_small, ref_event, some_event

CHANCE = random.Random(270)


def unread(case, line, field, function, *arguments, **named):
    with case.assertRaises(InvalidText) as caught:
        function(*arguments, **named)
    case.assertIsInstance(caught.exception, TextError)
    same(case, (caught.exception.line, caught.exception.field), (line, field))


def event_field(text):
    """The field of the first word of a line of an event that cannot stand, None if all can."""
    words = text.split(' ')
    if words[0] not in WORDS:
        return 0
    if len(words) == 1:
        return 1
    fits = {'helper': is_small, 'walk': lambda word: word in ('below', 'sides'), 'mark': lambda word: is_small(word) and len(word) <= 8}
    if not fits.get(words[0], is_written_number)(words[1]):
        return 1
    return None if len(words) == 2 else 2


def is_written_number(word):
    return word == '0' or word != '' and len(word) <= 60 and word[0] in '123456789' and all(sign in '0123456789' for sign in word)


def table_field(words):
    """The same of the words of a table."""
    if words[0] not in ('2', '3'):
        return 0
    for index, word in enumerate(words[1:], 1):
        if not ref_row(int(words[0]), word) or index > 1 and word <= words[index - 1]:
            return index
    return None if len(words) > 1 else 1


def log_fault(lines):
    """The line and the field of the first word that cannot stand in the lines of a log, None if all can."""
    if not lines:
        return 0, 0
    words = lines[0].split(' ')
    if words[0] != 'wood':
        return 0, 0
    field = table_field(words[1:] or [''])
    if field is not None:
        return 0, field + 1
    if len(lines) == 1:
        return 1, 0
    shape = lines[1].split(' ')
    if shape[0] != 'shape':
        return 1, 0
    if len(shape) == 1 or not ref_shape(int(words[1]), shape[1]):
        return 1, 1
    if len(shape) > 2:
        return 1, 2
    for index, line in enumerate(lines[2:], 2):
        if event_field(line) is not None:
            return index, event_field(line)
    return None


def some_log():
    table = CHANCE.choice((TURNS, UNLIKE, THREES, SIDED, *some_tables(271, 5, 'abc')))
    model = Model(table, CHANCE.choice(('.', '+' + '.' * table[0])))
    for _ in range(CHANCE.randrange(9)):
        event = some_event(model)
        if CHANCE.random() < 0.3 or model.reason(event) is None:
            if model.reason(event) is None:
                model.events.append(event)
    return (('wood', table, model.begin), *model.events)


LOGS = [some_log() for _ in range(60)]
NEVER = (('wood', TURNS, '.'), ('sprout', 10 ** 59), ('helper', 'z' * 60), ('walk', 'below'), ('mark', 'a'), ('mark', 'a'), ('prune', 0))


class LinesTest(unittest.TestCase):
    def test_event_lines(self):
        for event, line in ((('sprout', 0), 'sprout 0'), (('prune', 12), 'prune 12'), (('bit', 10 ** 59), 'bit 1' + '0' * 59),
                            (('helper', 'abba'), 'helper abba'), (('walk', 'sides'), 'walk sides'), (('mark', 'dawn'), 'mark dawn')):
            same(self, event_line(event), line)
            same(self, read_event(line), event)
        same(self, [event_line(event=('walk', 'below')), read_event(text='walk below')], ['walk below', ('walk', 'below')])
        for thing in (*ANY, ('bit', -1), ['bit', 0], ('bit',), ('bit', 0, 0), ('walk', 'up')):
            self.assertFalse(ref_event(thing))
            refuses(self, 'event', event_line, thing)

    def test_read_event(self):
        for text, field in (('', 0), (' ', 0), ('bit', 1), ('bit ', 1), ('bit  0', 1), (' bit 0', 0), ('bit 0 ', 2), ('bit 0 1', 2),
                            ('bit 00', 1), ('bit 01', 1), ('bit -1', 1), ('bit +1', 1), ('bit 1_0', 1), ('bit 0\n', 1), ('bit\n0', 0), ('\nbit 0', 0),
                            ('bit 1' + '0' * 60, 1), ('bit 0x1', 1), ('Bit 0', 0), ('bits 0', 0), ('helper', 1), ('helper ', 1), ('helper a?', 1),
                            ('helper aB', 1), ('helper ab ab', 2), ('walk', 1), ('walk up', 1), ('walk below sides', 2), ('walk belo', 1),
                            ('mark', 1), ('mark abcdefghi', 1), ('mark a1', 1), ('mark a b c', 2), ('mark A', 1), ('mark -', 1), ('cry', 0),
                            ('wood 2 aaa', 0), ('shape .', 0), ('-', 0)):
            unread(self, 0, field, read_event, text)
        same(self, [read_event('mark abcdefgh'), read_event('bit 9' + '0' * 59), read_event('helper ' + 'x' * 5993)],
             [('mark', 'abcdefgh'), ('bit', 9 * 10 ** 59), ('helper', 'x' * 5993)])

    def test_log_lines(self):
        same(self, log_lines((('wood', TURNS, '+..'), ('bit', 1), ('helper', 'baa'))), ['wood 2 abb baa', 'shape +..', 'bit 1', 'helper baa'])
        same(self, log_lines(log=(('wood', THREES, '.'),)), ['wood ' + table_line(THREES), 'shape .'])
        for log in (*LOGS, NEVER):
            lines = log_lines(log)
            same(self, lines, ['wood ' + table_line(log[0][1]), 'shape ' + log[0][2], *[f'{word} {value}' for word, value in log[1:]]])
            same(self, read_log(lines), log)
            same(self, read_log(lines=list(lines)), log)
        for log in LOGS:
            self.assertTrue(replayed(read_log(log_lines(log))) == replayed(log))
        for thing in (*ANY, [('wood', TURNS, '.')], (('wood', TURNS, '+...'),), (('wood', TURNS, '.'), ('bit', -1))):
            refuses(self, 'log', log_lines, thing)

    def test_read_log(self):
        good = ['wood 2 abb baa', 'shape +..', 'bit 1', 'mark a']
        for lines, told in (([], (0, 0)), ([''], (0, 0)), (['wood'], (0, 1)), (['wood '], (0, 1)), (['wood 2'], (0, 2)), (['wood 4 abb'], (0, 1)),
                            (['wood 2 baa abb'], (0, 3)), (['wood 2 abb '], (0, 3)), (['wood  2 abb'], (0, 1)), (['Wood 2 abb'], (0, 0)),
                            (['wood2 abb'], (0, 0)), (['2 abb'], (0, 0)), (['wood 2 abb', ], (1, 0)), ([good[0], ''], (1, 0)),
                            ([good[0], 'shape'], (1, 1)), ([good[0], 'shape '], (1, 1)), ([good[0], 'shape +...'], (1, 1)),
                            ([good[0], 'shape +.. '], (1, 2)), ([good[0], 'shape +.. ?'], (1, 2)), ([good[0], 'Shape .'], (1, 0)),
                            ([good[0], 'bit 1'], (1, 0)), ([*good, ''], (4, 0)), ([*good, 'cry'], (4, 0)), ([*good, 'bit'], (4, 1)),
                            ([*good[:2], 'bit x', 'bit'], (2, 1)), ([*good, 'wood 2 abb'], (4, 0)), (['wood 2 a', 'shape'], (0, 2))):
            unread(self, *told, read_log, lines)
            same(self, log_fault(lines), told)
        same(self, read_log(['wood 3 aaaa', 'shape +...']), (('wood', (3, ('aaaa',)), '+...'),))

    def test_one_sign_or_word_otherwise(self):
        seen = set()
        signs = ' abz019?+.-\tA_' + 'sprout'
        for log in LOGS:
            for _ in range(25):
                lines = log_lines(log)
                index = CHANCE.randrange(len(lines))
                line = lines[index]
                kind = CHANCE.randrange(6)
                spot = CHANCE.randrange(len(line))
                words = line.split(' ')
                word = CHANCE.randrange(len(words))
                lines[index] = [line[:spot] + CHANCE.choice(signs) + line[spot + 1:], line[:spot] + line[spot + 1:],
                                line[:spot] + CHANCE.choice(signs) + line[spot:], ' '.join(words[:word] + words[word + 1:]),
                                ' '.join(words[:word] + words[word:word + 1] * 2 + words[word + 1:]), line][kind]
                if kind == 5:
                    lines = [lines[:index], lines[index:], lines[:index] + lines[index + 1:], lines + lines[:1]][CHANCE.randrange(4)]
                told = log_fault(lines)
                if told is None:
                    same(self, log_lines(read_log(lines)), lines)
                else:
                    unread(self, *told, read_log, lines)
                    if told[0] > 1:
                        unread(self, 0, told[1], read_event, lines[told[0]])
                seen.add(told and (min(told[0], 2), told[1]))
        self.assertTrue({None, (0, 0), (0, 1), (0, 2), (0, 3), (1, 0), (1, 1), (1, 2), (2, 0), (2, 1), (2, 2)} <= seen, seen)

    def test_refused(self):
        for thing in ANY:
            if type(thing) is not str:
                refuses(self, 'text', read_event, thing)
            if not (type(thing) is list and all(type(line) is str for line in thing)):
                refuses(self, 'lines', read_log, thing)
        for lines in (('wood 2 abb', 'shape .'), ['wood 2 abb', None], ['wood 2 abb\n', 'shape .'], ['\n'], ['wood', 'a\nb'], 'wood', [['wood']]):
            refuses(self, 'lines', read_log, lines)
        refuses(self, 'lines', read_log, lines=['wood 2 abb', 'shape .', 'bit 0\n'])


def answer_of(wood, word):
    value = vars(Wood)[word + '_now'].fget(wood)
    if value in (None, ()):
        return '-'
    return value if type(value) is str else ' '.join(str(one) for one in value)


class DeskTest(unittest.TestCase):
    def test_example(self):
        desk = Desk(TURNS, '+..')
        rows = ('bit 1', 'laid', 'bars walk sides', 'helper baa', 'laid', 'log', 'wood 2 aaa', 'shape')
        same(self, [desk.say(row) for row in rows], ['turn 1', 'abb', 'none', '-', 'abb', 'bit 1 / helper baa', 'ok', '.'])

    def test_rows(self):
        desk = Desk(table=UNLIKE, shape='.')
        for row, answer in (('cry', '-'), ('shape', '.'), ('bits', '1'), ('laid', 'a'), ('walked', '-'), ('names', '-'), ('log', '-'),
                            ('mark b', '-'), ('mark a', '-'), ('names', 'a b'), ('since a', '-'), ('sprout 0', '-'), ('since a', 'sprout 0'),
                            ('since b', 'mark a / sprout 0'), ('log', 'mark b / mark a / sprout 0'), ('bit 0', 'turn 0'), ('cry', 'turn 0'),
                            ('bits', '011'), ('undo', 'bit 0'), ('cry', '-'), ('walk sides', '-'), ('walked', 'baa'), ('bars bit 0', '-'),
                            ('bars bit 3', 'place'), ('bars sprout 0', 'kind'), ('bars mark a', 'twice'), ('bars helper aaa', 'right'),
                            ('helper cab', '-'), ('undo', 'helper cab'), ('undo', 'walk sides'), ('walked', '-')):
            same(self, desk.say(row=row), answer)

    def test_beside_a_wood(self):
        for table, shape in ((TURNS, '+..'), (UNLIKE, '.'), (LOST, '.'), (SIDED, '++...'), (DIST, '.'), (THREES, '+...')):
            desk, wood, model = Desk(table, shape), Wood(table, shape), Model(table, shape)
            for _ in range(40):
                event = some_event(model)
                line, reason = event_line(event), model.reason(event)
                same(self, desk.say('bars ' + line), reason or '-')
                if reason is None:
                    wood.happen(event)
                    model.events.append(event)
                    same(self, desk.say(line), answer_of(wood, 'cry'))
                else:
                    with self.assertRaises(InvalidEvent) as caught:
                        desk.say(line)
                    same(self, (caught.exception.event, caught.exception.reason), (event, reason))
                if CHANCE.random() < 0.1 and model.events:
                    wood.undo()
                    same(self, desk.say('undo'), event_line(model.events.pop()))
                for word in ('cry', 'shape', 'bits', 'laid', 'walked', 'names'):
                    same(self, desk.say(word), answer_of(wood, word))
                same(self, desk.say('log'), ' / '.join(event_line(one) for one in model.events) or '-')
                for name in wood.names_now:
                    same(self, desk.say('since ' + name), ' / '.join(event_line(one) for one in wood.since(name)) or '-')

    def test_a_new_wood(self):
        desk = Desk(TURNS, '+..')
        desk.say('mark a')
        same(self, [desk.say('wood 3 aaaa'), desk.say('log'), desk.say('names'), desk.say('shape'), desk.say('sprout 0'), desk.say('shape')],
             ['ok', '-', '-', '.', '-', '+...'])
        with self.assertRaises(NotUsable):
            desk.say('since a')
        same(self, [desk.say('wood ' + table_line(UNLIKE)), desk.say('walk below'), desk.say('walked')], ['ok', '-', 'a'])

    def test_other_rows(self):
        desk = Desk(TURNS, '+..')
        desk.say('mark a')
        for row in ('', ' ', 'cry ', ' cry', 'Cry', 'cry 1', 'cry\n', 'undo 1', 'undo ', 'log 1', 'since', 'since ', 'since A', 'since a ', 'since  a',
                    'since abcdefghi', 'since a b', 'since a1', 'bars', 'bars ', 'bars cry', 'bars bit', 'bars bit 01', 'bars  bit 1',
                    'bars bars bit 1', 'wood', 'wood ', 'wood 2', 'wood 2 ab', 'wood 2 baa abb', 'wood 1 aa', 'wood  2 abb', 'bit', 'bit x',
                    'bit 0 0', 'sprout -1', 'mark abcdefghi', 'walk up', 'helper a?', 'laid_now', 'names_now', 'tried', 'counts', '-', 'table',
                    'kind', 'bit 0\n', 'shape .', 'since a\n', 'mark'):
            with self.assertRaises(InvalidRow) as caught:
                desk.say(row)
            self.assertIsInstance(caught.exception, TextError)
            same(self, caught.exception.row, row)
        same(self, [desk.say('log'), desk.say('bits')], ['mark a', '111'])

    def test_errors_of_the_wood(self):
        desk = Desk(TURNS, '+..')
        for row, event, reason in (('bit 3', ('bit', 3), 'place'), ('sprout 0', ('sprout', 0), 'kind'), ('walk below', ('walk', 'below'), 'none')):
            with self.assertRaises(InvalidEvent) as caught:
                desk.say(row)
            same(self, (caught.exception.event, caught.exception.reason), (event, reason))
        with self.assertRaises(NothingToUndo) as caught:
            desk.say('undo')
        same(self, caught.exception.steps, 0)
        refuses(self, 'name', desk.say, 'since x')
        refuses(self, 'name', desk.say, 'since abcdefgh')
        for _ in range(20):
            desk.say('bit 0')
            desk.say('bit 0')
        same(self, desk.say('bars bit 9'), 'full')
        same(self, [desk.say('shape'), desk.say('cry'), len(desk.say('log').split(' / '))], ['+..', '-', 40])

    def test_refused(self):
        desk = Desk(TURNS, '.')
        for thing in ANY:
            if type(thing) is not str:
                refuses(self, 'row', desk.say, thing)
            if not ref_table(thing):
                refuses(self, 'table', Desk, thing, None)
            if not ref_shape(2, thing):
                refuses(self, 'shape', Desk, TURNS, thing)
        refuses(self, 'row', desk.say, row=['cry'])
        refuses(self, 'row', desk.say, ('bit', 0))


if __name__ == "__main__":
    unittest.main()
