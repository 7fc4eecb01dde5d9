"""What several tests need: wrong values, examples, and how an error is looked at."""

import doctest

from deepenough.base.limits import Limits


def nested(kind, depth):
    """A tuple, list or dict that is nested so many deep."""
    value = 0
    for _ in range(depth):
        value = {"a": value} if kind is dict else kind([value])
    return value


LONG = 10 ** 40 - 1

# Values of all kinds that [0.4] names. None of them is a string that is a name.
STRINGS = ["", " ", "A", "a b", "a1", "abcdefghi", "0", "-1", "none ", "a\n", "\n", "~", "None", "0+2k,", "a" * 5000]
SMALL = [0, 1, 2, 1999, 2000]
LARGE = [2001, 10 ** 20, LONG]
NEGATIVE = [-1, -2, -2000, -2001, -LONG]
BOOLEANS = [True, False]
HOLDERS = [(), (1,), (0, 1), [], [0], [0, 1], {}, {"a": 1}, {0: 1}, ((),), ([],), ({},)]
NESTED = [nested(kind, 12) for kind in (tuple, list, dict)]
OBJECTS = [Limits.every(), Limits.none(), Limits((0, 2), 3, 3, (0, 1))]

NO_INTEGERS = [None, *BOOLEANS, *STRINGS, "a", "main", *HOLDERS, *NESTED, *OBJECTS]
NO_TUPLES = [None, *BOOLEANS, *STRINGS, "a", *SMALL, *LARGE, *NEGATIVE, [], [0], [0, 1], {}, {0: 1}, *NESTED[1:],
             *OBJECTS]
VALUES = [*NO_INTEGERS, *SMALL, *LARGE, *NEGATIVE]


def raised(call, *given):
    """The error that a call raises, or None."""
    try:
        call(*given)
    except Exception as error:
        return error
    return None


def check_raises(case, error, kept, call, *given):
    """The call raises just this class of error, with these attributes."""
    found = raised(call, *given)
    case.assertIs(type(found), error, given)
    for name, value in kept.items():
        held = getattr(found, name)
        case.assertEqual((type(held), held), (type(value), value))


def check_examples(case, text, names):
    """The examples of a text print what stands behind them."""
    test = doctest.DocTestParser().get_doctest(text, dict(names), "DOC.md", None, 0)
    report = []
    result = doctest.DocTestRunner(verbose=False).run(test, out=report.append)
    case.assertGreater(result.attempted, 0)
    case.assertEqual(result.failed, 0, "".join(report))
