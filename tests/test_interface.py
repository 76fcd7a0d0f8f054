"""The names of the interface: where each stands, and what it takes, as the headings of the document write it."""

import ast
import importlib
import inspect
import unittest
from pathlib import Path

INTERFACE = """
kinds:
    is_integer(thing); is_number(thing); is_mark(thing); is_lot(thing); is_row(many, thing);
    is_table(thing); is_shape(many, thing); is_marking(thing); is_label(thing); is_tree(many, thing);
    is_surrounding(many, thing); is_machine(thing); is_tag(thing); is_notes(thing); is_checker(thing)
judges:
    lets_table(thing); lets_shape(many, thing); lets_tree(many, thing); lets_machine(thing);
    lets_checker(thing)
tableparts:
    marks_of(table); tops_of(table); rows_of(table, mark); below(table, mark); rows_within(table, lot)
places:
    parent_of(many, shape, place); children_of(many, shape, place); depth_of(many, shape, place);
    height_of(many, shape, place); part_of(many, shape, place); labels_in(many, tree);
    label_at(many, tree, place); tree_parent(many, tree, place); tree_children(many, tree, place);
    tree_part(many, tree, place); surrounding_of(many, tree, place); put_in(many, surrounding, tree);
    bare(tree); dressed(shape, label); read_as_tree(shape, marking)
changes:
    with_row(table, row); without_row(table, row); cut_to(table, lot); renamed(table, names);
    sprouted(many, shape, place); pruned(many, shape, place); grafted(many, shape, place, late);
    relabelled(many, tree, place, label); tree_grafted(many, tree, place, late);
    tree_pruned(many, tree, place)
texts:
    table_line(table); shape_line(shape, marking); machine_line(machine); checker_line(checker)
readings:
    table_read(text); shape_read(many, text); machine_read(text); checker_read(text)
objects:
    Table(many, rows); Machine(many, labels, count, leaves, steps, good);
    Checker(many, tops, leaves, rows)
marking:
    faults_of(table, shape, marking); is_right(table, shape, marking); tops_by(table, shape, marking);
    filled(table, shape, marking); count_filled(table, shape, marking); forced(table, shape, marking)
fulls:
    full_shape(many, height); falling(table, lot); lasting(table, lot);
    full_marking(table, lot, mark, height); never_height(table)
shapesets:
    all_tops(table); least_never(table)
nevers:
    never_paper(table); lets_never(table, thing)
arrows:
    arrows_in(table, lot); arrow_row(table, lot, one, other); ends_by(table, lot, mark, steps);
    way_of(table, lot, one, other, steps); least_way(table, lot, one, other)
lengths:
    lengths_of(table, lot, one, other); is_length(table, lot, one, other, steps);
    how_many_ways(table, lot, one, other, steps)
parts:
    parts_in(table, lot); loose_parts(table, lot); reach_of(table, lot, part);
    leads(table, lot, one, other)
ways:
    way_paper(table, lot, one, other, steps); lets_way(table, lot, one, other, steps, thing)
goodrows:
    next_lots(table, lot); good_rows(table); is_good_row(table, thing); root_of(table);
    at_least(table, k)
roots:
    root_paper(table); lets_root(table, thing)
leading:
    is_leading(table, other, names); leading_of(table, other)
hardladders:
    ladder(many, k)
walkers:
    is_below_lot(table, lot); below_lots(table); are_side_lots(table, lots); side_lots(table);
    alike_marks(table); walk_marking(table, lot, shape); side_marking(table, lots, shape)
rings:
    is_ring(table, thing); ring_of(table); ring_marking(table, ring, shape); ring_paper(table);
    lets_ring(table, thing)
walkerpapers:
    walker_paper(table, kind); lets_walker(table, kind, thing)
rungs:
    rung_of(table); is_at_least(rung, other)
rungpapers:
    rung_paper(table); lets_rung(table, thing)
tablesums:
    pairs_of(table, other); at_once(table, other); side_by_side(table, other)
peeling:
    rounds_of(many, shape, g, l, k); left_after(many, shape, g, l, i); least_g(many, shape, l, k)
roundmarks:
    round_marking(table, row, shape, g, l); agrees(table, row, shape, g, l, marking);
    top_marking(table, shape)
hardshapes:
    hard_shape(many, i, s, h)
bitcodes:
    width_of(table); code_of(table, mark); period_of(table, gap); looks_of(table, gap);
    turns_of(table, shape, gap); bits_of(table, shape, marking, gap); beacons_of(table, shape, gap);
    readable_of(table, shape, gap); regions_of(table, shape, gap)
bitmarks:
    told_code(table, shape, bits, gap, place); marking_by(table, shape, bits, gap);
    lets_bits(table, shape, bits, gap)
views:
    is_view(many, thing); view_of(many, shape, bits, place, steps)
seenmarks:
    mark_seen(table, view, gap)
helpers:
    Helper(table, gap)
running:
    standing_of(machine, tree); has(machine, tree); met(machine); met_at(machine, label);
    least_with(machine); least_without(machine)
joining:
    both(one, other); either(one, other); parting(one, other); least_machine(machine)
noting:
    crying(checker, tree, notes); is_noted(checker, tree, thing); noted(checker, tree, notes=None);
    count_noted(checker, tree); tops_of_notes(checker, tree)
telling:
    checker_machine(checker, labels); tells(checker, machine); tell_fault(checker, machine)
surroundings:
    let_by(machine, surrounding); accept_bundles(machine); surrounding_for(machine, yes, no)
bundles:
    closed_bundles(machine, label); closing(machine, label, bundle); shown_by(machine, label, bundle)
greatest:
    greatest(machine); tags_of(machine); bundle_of(machine, tag)
tagleading:
    useful(checker); leading_tags(checker, machine); is_tag_leading(one, other, thing)
choices:
    with_choice(machine, tags); is_enough(machine, tags); least_choices(machine)
fewest:
    fewest_notes(machine); fewest_in_all(machine); numbers_enough(machine)
needs:
    outer_bundles(machine, label); inner_bundles(machine, label); needs_at(machine, label)
crossings:
    is_crossing(machine, label, thing); crossing(machine, label, size); most_crossing(machine, label)
covers:
    is_cover(machine, label, thing); first_lack(machine, label, bundles);
    least_cover(machine, label, *, kind="any")
coverchoices:
    are_covered(machine, tags); cover_tags(machine, kind); cover_numbers(machine); is_clear(machine)
coverpapers:
    cover_paper(machine, kind)
coverchecker:
    lets_cover(machine, thing)
belownotes:
    below_numbers(machine); below_checker(machine); below_notes(machine, tree);
    is_from_below(checker, machine)
abovenotes:
    above_numbers(machine); above_checker(machine); above_notes(machine, tree)
turning:
    turned_tree(tree); turned_notes(tree, notes); turned_checker(checker); turned_machine(machine)
tablenotes:
    table_checker(table); shapes_machine(table)
notebits:
    note_width(checker); note_bits(checker, tree, notes, gap); tree_regions(checker, tree, gap);
    notes_by(checker, tree, bits, gap); bits_say(checker, tree, bits, gap);
    why_no(checker, tree, bits, gap, place)
cutparts:
    cut_part(many, tree, place, depth); top_cuts(machine, depth); inner_cuts(machine, depth)
looks:
    passes(machine, tree, depth); tells_by_looks(machine, depth); least_look(machine);
    looks_paper(machine, depth); lets_looks(machine, depth, thing)
woodevents:
    is_event(thing); is_log(thing)
woods:
    Wood(table, shape); replayed(log)
woodtexts:
    event_line(event); log_lines(log); read_event(text); read_log(lines)
desk:
    Desk(table, shape)
"""

METHODS = {
    ('objects', 'Table'): 'read many_now rows_now marks_now __str__ __eq__ __call__ __getitem__ __contains__ __len__ __iter__ '
                          '__add__ __sub__ __and__',
    ('objects', 'Machine'): 'read many_now labels_now count_now good_now holds_for __str__ __eq__ __call__ __getitem__ '
                            '__contains__ __len__ __iter__ __add__ __sub__',
    ('objects', 'Checker'): 'read many_now tops_now leaves_now tags_now __str__ __eq__ __getitem__ __contains__ __len__ __iter__ '
                            '__add__ __sub__',
    ('helpers', 'Helper'): 'table_now gap_now width_now period_now sight_now marking judged view seen __getitem__ __contains__ '
                           '__iter__ __len__ __call__ __eq__ __add__',
    ('woods', 'Wood'): 'happen sprout prune bit helper walk mark __iadd__ table_now shape_now bits_now cry_now laid_now kind_now '
                       'walked_now names_now __getitem__ __len__ __contains__ __iter__ __eq__ barred tried undo do_all since log '
                       'counts',
    ('desk', 'Desk'): 'say',
}


def interface():
    """The pairs of a module and of what stands in it, with its parameters."""
    pairs = []
    for line in INTERFACE.strip().split('\n'):
        if not line.startswith(' '):
            module = line.rstrip(':')
        else:
            pairs.extend((module, told.strip()) for told in line.strip().rstrip(';').split(';'))
    return pairs


def definitions(module):
    folder = Path(__file__).resolve().parent.parent / 'markladder'
    return {node.name: node for node in ast.parse((folder / f'{module}.py').read_text()).body if hasattr(node, 'name')}


class InterfaceTest(unittest.TestCase):
    def test_names_and_parameters(self):
        pairs = interface()
        self.assertEqual(len(pairs), 231)
        for module, told in pairs:
            with self.subTest(module=module, told=told):
                name, parameters = told[:told.index('(')], told[told.index('('):]
                found = vars(importlib.import_module('markladder.' + module))[name]
                self.assertEqual(str(inspect.signature(found)).replace("'", '"'), parameters)
                self.assertIn(name, definitions(module))

    def test_methods_stand_in_their_classes(self):
        for (module, name), methods in METHODS.items():
            held = {node.name for node in definitions(module)[name].body if isinstance(node, ast.FunctionDef)}
            self.assertLessEqual(set(methods.split()), held)

    def test_parameters_of_methods(self):
        told = {'happen': '(self, event)', 'sprout': '(self, place)', 'prune': '(self, place)', 'bit': '(self, place)',
                'helper': '(self, marking)', 'walk': '(self, kind)', 'mark': '(self, name)', 'barred': '(self, event)',
                'tried': '(self, *events)', 'undo': '(self)', 'do_all': '(self, *events, keep=False)', 'since': '(self, name)',
                'log': '(self)', 'counts': '(self)'}
        wood = vars(importlib.import_module('markladder.woods'))['Wood']
        self.assertEqual({name: str(inspect.signature(vars(wood)[name])) for name in told}, told)
        desk = vars(importlib.import_module('markladder.desk'))['Desk']
        self.assertEqual(str(inspect.signature(desk.say)), '(self, row)')


if __name__ == "__main__":
    unittest.main()
