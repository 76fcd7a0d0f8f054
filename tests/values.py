"""Values of every kind, and what is a table, a lot, a shape and so on, told in another way than the package does."""

import re
import string

from markladder.errors import InvalidPaper, LadderError, NotUsable, PaperError, RuleError

TURNS = (2, ('abb', 'baa'))
UNLIKE = (2, ('abb', 'abc', 'acc', 'baa', 'bac', 'bcc', 'caa', 'cab', 'cbb'))
DIST = (2, ('abc', 'bac', 'cab'))
SIDED = (2, ('aab', 'bab'))
LOST = (2, ('abc', 'baa', 'bbc'))
STEPS = (2, ('abb', 'baa', 'cac', 'cdd', 'dcc'))
LONG = (2, ('abb', 'baa', 'cac', 'cdd', 'dcc', 'ece', 'eff', 'fee'))
THREES = (3, ('aabc', 'bbbb', 'caaa', 'cabc'))
TABLES = (TURNS, UNLIKE, DIST, SIDED, LOST, STEPS, LONG, THREES)
EVEN = (1, 'ab', 2, (1, 0), ((1, 0), (0, 1)), (0,))
TWINS = (2, 'ab', 3, (0, 1), ((0, 2, 2, 2, 1, 2, 2, 2, 2),) * 2, (0, 1))
PARITY = (1, ('a0', 'b0'), ('a1', 'b0'), ('a0a1', 'a0b1', 'a1a0', 'a1b0', 'b0a0', 'b0b0', 'b1a1', 'b1b1'))


def nested(depth, inner):
    """A tuple and a list in turns, so deep around something."""
    for level in range(depth):
        inner = (inner,) if level % 2 else [inner]
    return inner


ANY = (
    None, True, False, 0, 1, 2, 3, 4, 5, 7, -1, -2, 59, 10 ** 59, -10 ** 59, 10 ** 60 - 1,
    '', 'a', 'b', 'c', 'z', 'A', 'Z', '?', '_', '.', '+', '-', ' ', '\n', 'a\n', '.\n', '0', '1', '9', '10', 'a b',
    'ab', 'ba', 'aa', 'abc', 'abcd', 'acb', 'az', 'abb', 'baa', 'aab', 'aba', 'abbb', 'abba', 'a?', '??', '?a?', 'Ab1',
    '+..', '+...', '+.', '..', '+..+', '+.+..', '++..+..', '+++', '....', '+' * 3000 + '.' * 3001, '.' * 6000,
    'Aa', 'Aaa', 'aA', 'ABa', 'AAabb', 'A_', 'A_b', 'Ab_', '__', 'A__', 'Aab_', 'AB_', 'A' * 2999 + 'a', 'a' * 6000,
    'a0', 'a1', '0a', 'a0a1', 'a0b1c0', 'A0', 'a0 ', 'never', 'ever', 'way', 'none', 'root', 'kept', 'loose',
    '2 abb baa', '1 ab 2 leaves 1 0 steps 1,0 0,1 good 0', '1 tops - leaves - rows -', '+.. a?b',
    (), [], ((),), ([],), [()], ('a',), ['a'], ('ab',), ['ab'], ('a', 'b'), ('b', 'a'), ('a', 'a'), ('abb',), ['abb'],
    ('abb', 'baa'), ('baa', 'abb'), ('abb', 'abb'), ('a0',), ('a0', 'b0'), ('b0', 'a0'), ('a0', 'a0'), (0,), (0, 1),
    (1, 0), (0, 0), (True,), (False, 1), (0, True), (-1,), (2, 3), (None,), (2, ()), (2, ('abb',)), [2, ('abb',)],
    (2, ['abb']), (True, ('abb',)), (1, ('abb',)), (3, ('abb',)), (3, ('abbb',)), (2, ('abb', 'baa')),
    (2, ('baa', 'abb')), (2, ('abb', 'abb')), (2, ('abb', None)), (2, ('aba',)), (2, ('ABB',)), (2, 'abb'), ('2', ('abb',)),
    (2, ('abb',), ()), (('a', 'b'),), (('a', 'b'), ('b', 'c')), (('b', 'c'), ('a', 'b')), (('a', 'b'), ('a', 'c')),
    (['a', 'b'],), (('a',),), (('a', 'b', 'c'),), (('a', 1),), ('never', ('ab', '')), ('ever', ('ab',)), ('way', 'ab'),
    EVEN, list(EVEN), EVEN[:5], (True,) + EVEN[1:], EVEN[:2] + (True,) + EVEN[3:], TWINS, PARITY, list(PARITY), PARITY[:3],
    (1, (), (), ()), (2, (), (), ()), (3, (), (), ()), (1, (), (), []), (1, [], (), ()), (1, ('a0',), ('a1',), ('a0a1',)),
    nested(30, 'a'), nested(29, 7), nested(30, ()), ('a',) * 10000, [None] * 10000, (0,) * 10000, tuple(range(10000)),
)


def is_int(thing):
    return type(thing) is int


def ref_number(thing):
    return is_int(thing) and thing >= 0


def ref_mark(thing):
    return type(thing) is str and re.fullmatch('[a-z]', thing) is not None


def ref_lot(thing):
    return type(thing) is str and re.fullmatch(''.join(sign + '?' for sign in string.ascii_lowercase), thing) is not None


def ref_lot_of(marks):
    return lambda thing: ref_lot(thing) and set(thing) <= set(marks)


def ref_mark_of(marks):
    return lambda thing: ref_mark(thing) and thing in set(marks)


def ref_row(many, thing):
    if not is_int(many) or many not in (2, 3) or type(thing) is not str:
        return False
    return re.fullmatch('[a-z]{%d}' % (many + 1), thing) is not None and sorted(thing[1:]) == list(thing[1:])


def ref_set(thing, fits):
    """Whether thing is a tuple of what fits, as Python sorts it, each once."""
    return type(thing) is tuple and all(fits(one) for one in thing) and list(thing) == sorted(set(thing))


def ref_table(thing):
    if type(thing) is not tuple or len(thing) != 2 or not is_int(thing[0]) or thing[0] not in (2, 3):
        return False
    return thing[1] != () and ref_set(thing[1], lambda row: ref_row(thing[0], row))


def ref_nest(many, thing, numbers, leaves, inner):
    """Whether what is left is one place, if places with children become such without, again and again."""
    if not is_int(many) or many not in numbers or type(thing) is not str:
        return False
    if not re.fullmatch('[%s%s]+' % (leaves, inner), thing):
        return False
    text = re.sub('[%s]' % inner, '+', re.sub('[%s]' % leaves, '.', thing))
    while '+' + '.' * many in text:
        text = text.replace('+' + '.' * many, '.')
    return text == '.'


def ref_shape(many, thing):
    return ref_nest(many, thing, (2, 3), '.', '+')


def ref_tree(many, thing):
    return ref_nest(many, thing, (1, 2), 'a-z', 'A-Z')


def ref_surrounding(many, thing):
    return ref_nest(many, thing, (1, 2), 'a-z_', 'A-Z') and thing.count('_') == 1


def ref_marking(thing):
    return type(thing) is str and re.fullmatch('[a-z?]+', thing) is not None


def ref_notes(thing):
    return type(thing) is str and re.fullmatch('[0-9?]+', thing) is not None


def ref_tag(thing):
    return type(thing) is str and re.fullmatch('[a-z][0-9]', thing) is not None


def ref_standing(count):
    return lambda thing: ref_number(thing) and thing < count


def ref_machine(thing):
    if type(thing) is not tuple or len(thing) != 6:
        return False
    many, labels, count, leaves, steps, good = thing
    if not is_int(many) or many not in (1, 2) or not ref_lot(labels) or labels == '' or not is_int(count) or count < 1:
        return False
    fits = ref_standing(count)
    if type(leaves) is not tuple or len(leaves) != len(labels) or not all(fits(one) for one in leaves):
        return False
    if type(steps) is not tuple or len(steps) != len(labels):
        return False
    if not all(type(row) is tuple and len(row) == count ** many and all(fits(one) for one in row) for row in steps):
        return False
    return ref_set(good, fits)


def ref_checker(thing):
    if type(thing) is not tuple or len(thing) != 4 or not is_int(thing[0]) or thing[0] not in (1, 2):
        return False
    pattern = '([a-z][0-9]){%d}' % (thing[0] + 1)
    fits = lambda row: type(row) is str and re.fullmatch(pattern, row) is not None
    return ref_set(thing[1], ref_tag) and ref_set(thing[2], ref_tag) and ref_set(thing[3], fits)


def same(case, result, expected):
    """Demands that a result is equal to what is expected, and of exactly its kind, also within."""
    case.assertEqual(repr(result), repr(expected))


def refuses(case, name, function, *arguments, **named):
    """Demands that a call raises NotUsable with the name of this parameter."""
    with case.assertRaises(NotUsable) as caught:
        function(*arguments, **named)
    same(case, (caught.exception.word, caught.exception.at), (name, -1))
    case.assertIsInstance(caught.exception, RuleError)
    case.assertIsInstance(caught.exception, LadderError)


def faulty(case, word, at, function, *arguments, **named):
    """Demands that a call raises InvalidPaper with this word and at."""
    with case.assertRaises(InvalidPaper) as caught:
        function(*arguments, **named)
    same(case, (caught.exception.word, caught.exception.at), (word, at))
    case.assertIsInstance(caught.exception, PaperError)
    case.assertIsInstance(caught.exception, LadderError)


def check_parameters(case, function, *parameters):
    """Hands values of every kind to a function.

    Each parameter is a triple of its name, a good value, and what tells whether any value is one. The first parameter
    that is not as stated is to be named, whatever stands behind it.
    """
    names = [name for name, _, _ in parameters]
    good = [value for _, value, _ in parameters]
    for index, (name, value, fits) in enumerate(parameters):
        case.assertTrue(fits(value), (function.__name__, name))
        for thing in ANY:
            if not fits(thing):
                with case.subTest(function=function.__name__, parameter=name, thing=repr(thing)[:80]):
                    kept = repr(thing)
                    refuses(case, name, function, *good[:index], thing, *good[index + 1:])
                    refuses(case, name, function, *good[:index], thing, *[None for _ in good[index + 1:]])
                    refuses(case, name, function, **dict(zip(names, good[:index] + [thing] + good[index + 1:])))
                    case.assertEqual(repr(thing), kept)
    case.assertEqual(repr(function(*good)), repr(function(**dict(zip(names, good)))))


def changed(chance, thing, pool):
    """The value with one change somewhere within: something of the pool, an element less, twice, or in another place."""
    if isinstance(thing, tuple) and thing and chance.random() < 0.9:
        index = chance.randrange(len(thing))
        kind = chance.random()
        if kind < 0.75:
            return thing[:index] + (changed(chance, thing[index], pool),) + thing[index + 1:]
        if kind < 0.83:
            return thing[:index] + thing[index + 1:]
        if kind < 0.91:
            return thing[:index] + (thing[index],) + thing[index:]
        other = chance.randrange(len(thing))
        parts = list(thing)
        parts[index], parts[other] = parts[other], parts[index]
        return tuple(parts)
    return chance.choice(pool)


def outcome(function, *arguments):
    """What a call returns, or the error that it raises with its fields, as a string."""
    try:
        return repr(function(*arguments))
    except LadderError as error:
        return f'{error.__class__.__name__} {vars(error)!r}'


def first_fault(faults):
    """As outcome, of the first pair of a word and at, if there is one."""
    for word, at in faults:
        return f"InvalidPaper {dict(word=word, at=at)!r}"
    return None
