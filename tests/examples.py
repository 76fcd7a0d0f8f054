"""Runs examples as they are written in the document: a line behind >>> and what it shows."""

from markladder.errors import LadderError


def run_examples(case, text, names):
    """Runs the examples of the text one after the other, with these names; case is the unittest.TestCase."""
    for source, shown in examples_in(text):
        with case.subTest(example=source):
            run_example(case, source, shown, names)


def examples_in(text):
    """The list of the pairs of a line behind >>> and of what is written below it, perhaps nothing."""
    pairs = []
    for line in [line.strip() for line in text.strip().split("\n")]:
        if line.startswith(">>> "):
            pairs.append((line[4:], ""))
        elif line != "":
            source, shown = pairs.pop()
            pairs.append((source, (shown + "\n" + line).strip()))
    return pairs


def run_example(case, source, shown, names):
    if shown == "":
        exec(source, names)
    elif shown.startswith("raises "):
        with case.assertRaises(LadderError) as caught:
            eval(source, names)
        case.assertEqual(shown_error(caught.exception), shown[len("raises "):])
    else:
        case.assertEqual(repr(eval(source, names)), shown)


def shown_error(error):
    """The error as the document writes it."""
    fields = ", ".join(f"{name}={value!r}" for name, value in vars(error).items())
    return f"{error.__class__.__name__}({fields})"
