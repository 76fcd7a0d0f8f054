"""The error classes: their families and fields ([16] and the list of errors)."""

import unittest

from markladder.errors import (InvalidEvent, InvalidPaper, InvalidRow, InvalidText, LadderError, LiveError, NoMarking,
                               NothingToUndo, NotUsable, PaperError, RuleError, TextError)

FIELDS = (
    (InvalidPaper, PaperError, ('word', 'at')),
    (NotUsable, RuleError, ('word', 'at')),
    (NoMarking, RuleError, ('shape',)),
    (InvalidEvent, LiveError, ('event', 'reason')),
    (NothingToUndo, LiveError, ('steps',)),
    (InvalidText, TextError, ('line', 'field')),
    (InvalidRow, TextError, ('row',)),
)


class ErrorsTest(unittest.TestCase):
    def test_bases(self):
        self.assertEqual(LadderError.__bases__, (ValueError,))
        for family in (PaperError, RuleError, LiveError, TextError):
            self.assertEqual(family.__bases__, (LadderError,))
        for error, family, _ in FIELDS:
            self.assertEqual(error.__bases__, (family,))

    def test_fields_keep_the_very_objects(self):
        for error, _, names in FIELDS:
            values = [[name] for name in names]
            for made in (error(*values), error(**dict(zip(names, values)))):
                self.assertEqual(tuple(vars(made)), names)
                for name, value in zip(names, values):
                    self.assertIs(vars(made)[name], value)

    def test_fields_may_be_any_values(self):
        thing = object()
        for value in (None, True, 0, -1, 10 ** 70, '', 'x' * 6000, (), [], {}, thing, (1, [2])):
            for error, _, names in FIELDS:
                made = error(*[value for _ in names])
                self.assertTrue(all(vars(made)[name] is value for name in names))

    def test_exactly_the_fields(self):
        for error, _, names in FIELDS:
            for wrong in ((), tuple(range(len(names) + 1)), tuple(range(len(names) - 1))):
                with self.assertRaises(TypeError):
                    error(*wrong)
            with self.assertRaises(TypeError):
                error(**{name + 's': 1 for name in names})

    def test_base_and_families_take_any_values(self):
        for error in (LadderError, PaperError, RuleError, LiveError, TextError):
            for values in ((), ('x',), (None,), (1, [2], 'y')):
                self.assertEqual(error(*values).args, values)

    def test_raised_and_caught(self):
        for error, family, names in FIELDS:
            for caught in (error, family, LadderError, ValueError):
                with self.assertRaises(caught):
                    raise error(*[1 for _ in names])


if __name__ == "__main__":
    unittest.main()
