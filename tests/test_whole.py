"""What the document promises over the whole program: each call's form, and that nothing else is done."""

import inspect
import pathlib
import subprocess
import sys
import unittest

import bitmatrix.desk
from tests import native
from tests.checks import check_kind, check_pure
from tests.native import NOT_FINITE, WRONG_SIZES, all_bits, bits

ONE = 0x3FF0000000000000
TABLE = all_bits([4, 1, 1, 3])
POINTS = all_bits([0, 1])

CALLS = {
    "product": (("n", "m", "k", "a", "b"), (2, 2, 2, TABLE, TABLE), 4),
    "lu": (("n", "a"), (2, TABLE), 6),
    "solve": (("n", "a", "order", "b"), (2, TABLE, [1, 0], POINTS), 2),
    "det": (("n", "a", "order"), (2, TABLE, [1, 0]), 1),
    "inverse": (("n", "a"), (2, TABLE), 4),
    "cholesky": (("n", "a"), (2, TABLE), 4),
    "upright": (("m", "n", "a"), (2, 2, TABLE), 8),
    "least": (("m", "n", "a", "b"), (2, 2, TABLE, POINTS), 2),
    "jacobi": (("n", "rounds", "a"), (2, 3, TABLE), 6),
    "spline": (("n", "x", "y"), (2, POINTS, POINTS), 2),
    "value": (("n", "t", "x", "y", "second"), (2, bits(0.5), POINTS, POINTS, POINTS), 1),
}
SPOILT = [ONE, ONE, ONE, NOT_FINITE[0]]
REFUSED = (
    ("product", (0, 2, 2, [], TABLE), -8), ("product", (2, 2, 2, TABLE, SPOILT), -1),
    ("lu", (33, []), -8), ("lu", (2, SPOILT), -1), ("lu", (2, [0] * 4), -2),
    ("solve", (-1, [], [], []), -8), ("solve", (2, SPOILT, [0, 1], POINTS), -1), ("solve", (2, TABLE, [0, 0], POINTS), -8),
    ("det", (0, [], []), -8), ("det", (2, SPOILT, [0, 1]), -1), ("det", (2, TABLE, [0, 2]), -8),
    ("inverse", (33, []), -8), ("inverse", (2, SPOILT), -1), ("inverse", (2, [0] * 4), -2),
    ("cholesky", (0, []), -8), ("cholesky", (2, SPOILT), -1), ("cholesky", (2, [0] * 4), -2),
    ("cholesky", (2, all_bits([1, 2, 3, 4])), -8),
    ("upright", (33, 1, []), -8), ("upright", (2, 2, SPOILT), -1), ("upright", (2, 2, [0] * 4), -2),
    ("upright", (1, 2, POINTS), -8),
    ("least", (2, 0, [], POINTS), -8), ("least", (2, 2, SPOILT, POINTS), -1), ("least", (2, 2, [0] * 4, POINTS), -2),
    ("least", (1, 2, POINTS, [ONE]), -8),
    ("jacobi", (0, 1, []), -8), ("jacobi", (2, 65, TABLE), -8), ("jacobi", (2, 1, SPOILT), -1),
    ("jacobi", (2, 1, all_bits([1, 2, 3, 4])), -8),
    ("spline", (1, [ONE], [ONE]), -8), ("spline", (2, POINTS, SPOILT[2:]), -1), ("spline", (2, [ONE, ONE], POINTS), -8),
    ("value", (1, ONE, [ONE], [ONE], [ONE]), -8), ("value", (2, ONE, POINTS, POINTS, SPOILT[2:]), -1),
    ("value", (2, ONE, [ONE, ONE], POINTS, POINTS), -8),
)

# Run by itself: what Python tells its watchers of while all the calls are made, and what was imported.
WATCHED = """
import sys
before = set(sys.modules)
import bitmatrix.desk
foreign = sorted(name for name in set(sys.modules) - before if name.split(".")[0] != "bitmatrix")
calls = CALLS
seen = []
watching = False

def watch(event, arguments):
    if watching:
        seen.append(event)

sys.addaudithook(watch)
watching = True
for name, arguments in calls:
    function = bitmatrix.desk.__dict__[name]
    function(*arguments)
watching = False
print(foreign, seen)
"""


def called(name, arguments):
    return getattr(bitmatrix.desk, name)(*arguments)


def everything():
    """Each call, with an answer and with its refusals."""
    return [(name, CALLS[name][1]) for name in CALLS] + [(name, arguments) for name, arguments, _ in REFUSED]


class Interface(unittest.TestCase):
    def test_names_and_arguments(self):
        for name, (arguments, _, _) in CALLS.items():
            parameters = inspect.signature(getattr(bitmatrix.desk, name)).parameters
            self.assertEqual(tuple(parameters), arguments, name)
            for parameter in parameters.values():
                self.assertIs(parameter.default, inspect.Parameter.empty)

    def test_arguments_by_name(self):
        for name, (names, arguments, _) in CALLS.items():
            by_name = getattr(bitmatrix.desk, name)(**dict(zip(names, arguments, strict=True)))
            self.assertEqual(by_name, called(name, arguments))

    def test_answers(self):
        for name, (_, arguments, count) in CALLS.items():
            answer = called(name, arguments)
            check_kind(self, answer)
            self.assertEqual(answer, getattr(native, name)(*arguments), name)
            self.assertEqual((answer[0], len(answer)), (0, 1 + count), name)

    def test_refusals(self):
        for name, arguments, expected in REFUSED:
            self.assertEqual(called(name, arguments), [expected], (name, arguments))

    def test_wrong_sizes_of_every_call(self):
        for wrong in WRONG_SIZES:
            for name, (names, arguments, _) in CALLS.items():
                given = [[] if isinstance(x, list) else x for x in arguments]
                for i, argument in enumerate(names):
                    if argument in ("n", "m", "k"):
                        given[i] = wrong
                self.assertEqual(called(name, given), [-8], (name, given))

    def test_doubles_are_told_by_their_bits(self):
        for name, (_, arguments, count) in CALLS.items():
            for x in called(name, arguments)[1:1 + count]:
                self.assertTrue(0 <= x < 1 << 64)


class Apart(unittest.TestCase):
    def test_pure(self):
        for name, arguments in everything():
            check_pure(self, getattr(bitmatrix.desk, name), *arguments)

    def test_calls_leave_nothing_for_one_another(self):
        alone = [called(name, arguments) for name, arguments in everything()]
        there = [called(name, arguments) for name, arguments in everything()]
        back = [called(name, arguments) for name, arguments in reversed(everything())]
        self.assertEqual(there, alone)
        self.assertEqual(back[::-1], alone)

    def test_nothing_is_kept_in_the_package(self):
        def kept():
            told = {}
            for module_name, module in list(sys.modules.items()):
                if module_name.split(".")[0] == "bitmatrix":
                    for name, thing in vars(module).items():
                        if not name.startswith("__"):
                            told[module_name, name] = repr(thing), repr(getattr(thing, "__dict__", None))
            return told

        before = kept()
        for name, arguments in everything():
            called(name, arguments)
        self.assertEqual(kept(), before)

    def test_nothing_is_printed_read_or_imported(self):
        script = WATCHED.replace("CALLS", repr(everything()))
        root = pathlib.Path(__file__).resolve().parent.parent
        ran = subprocess.run(
            [sys.executable, "-B", "-c", script], cwd=root, stdin=subprocess.DEVNULL, capture_output=True, text=True,
        )
        self.assertEqual((ran.stdout, ran.stderr, ran.returncode), ("[] []\n", "", 0))


if __name__ == "__main__":
    unittest.main()
