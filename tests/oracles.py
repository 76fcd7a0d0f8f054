"""Slow ways, straight from the definitions, to what the package tells."""

import itertools
import random


def all_rows(many, marks):
    return [top + ''.join(rest) for top in marks for rest in itertools.combinations_with_replacement(marks, many)]


def some_tables(seed, number, marks='abc', most=9):
    """Tables, always the same ones for a seed."""
    chance = random.Random(seed)
    tables = []
    for _ in range(number):
        many = chance.choice((2, 2, 3))
        rows = all_rows(many, marks[:chance.randint(1, len(marks))])
        tables.append((many, tuple(sorted(chance.sample(rows, min(len(rows), chance.randint(1, most)))))))
    return tables


def some_lots(marks):
    """All lots of these marks, the empty one too."""
    return [''.join(lot) for size in range(len(marks) + 1) for lot in itertools.combinations(marks, size)]


def marks_in(table):
    return ''.join(sorted(set(''.join(table[1]))))


def shapes_up_to(many, places):
    """All shapes with at most so many places."""
    shapes = {1: ['.']}
    for size in range(2, places + 1):
        shapes[size] = []
        for sizes in itertools.product(range(1, size), repeat=many):
            if sum(sizes) == size - 1:
                for parts in itertools.product(*[shapes[one] for one in sizes]):
                    shapes[size].append('+' + ''.join(parts))
    return [shape for size in range(1, places + 1) for shape in shapes[size]]


def some_shape(chance, many, forks):
    """A shape with so many places with children."""
    shape = '.'
    for _ in range(forks):
        leaf = chance.choice([place for place, sign in enumerate(shape) if sign == '.'])
        shape = shape[:leaf] + '+' + '.' * many + shape[leaf + 1:]
    return shape


def places_in(many, text):
    """For each place a dict of its parent, its children, its depth and its part; children follow "+" and capitals."""
    places = {}

    def read(place, parent, depth):
        told = places[place] = {'parent': parent, 'depth': depth, 'children': [], 'height': 0}
        end = place + 1
        if text[place] == '+' or text[place].isupper():
            for _ in range(many):
                told['children'].append(end)
                child = end
                end = read(child, place, depth + 1)
                told['height'] = max(told['height'], places[child]['height'] + 1)
        told['part'] = text[place:end]
        return end

    read(0, None, 0)
    return [places[place] for place in range(len(text))]


def is_right(table, shape, marking):
    marks = marks_in(table)
    for place, told in enumerate(places_in(table[0], shape)):
        if marking[place] not in marks:
            return False
        if told['children']:
            row = marking[place] + ''.join(sorted(marking[child] for child in told['children']))
            if row not in table[1]:
                return False
    return True


def right_markings(table, shape, marking):
    """All right whole markings of the shape that agree with the marking, as Python sorts them."""
    marks = marks_in(table)
    choices = [marks if sign == '?' else sign for sign in marking]
    return [''.join(signs) for signs in itertools.product(*choices) if is_right(table, shape, signs)]


def inside(table, lot):
    return [row for row in table[1] if set(row) <= set(lot)]


def arrow_set(table, lot):
    return sorted({row[0] + mark for row in inside(table, lot) for mark in row[1:]})


def ways(table, lot, one, steps):
    """All ways from one of so many steps, as Python sorts them."""
    arrows = arrow_set(table, lot)
    found = [one]
    for _ in range(steps):
        found = sorted(way + arrow[1] for way in found for arrow in arrows if arrow[0] == way[-1])
    return found


def ends(table, lot, one, most):
    """For each number of steps up to most the set of the ends of ways from one."""
    arrows = arrow_set(table, lot)
    found = [{one}]
    for _ in range(most):
        found.append({arrow[1] for arrow in arrows if arrow[0] in found[-1]})
    return found


def lasting(table, lot):
    """Marks at the top of full shapes of a great height."""
    tops = set(lot)
    for _ in range(len(lot) + 1):
        tops = {row[0] for row in inside(table, lot) if set(row[1:]) <= tops}
    return ''.join(sorted(tops))
