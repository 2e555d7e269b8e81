"""What is promised of all thirteen calls alike."""

import contextlib
import inspect
import io
import pathlib
import subprocess
import sys
import unittest

from fieldsquares import squares
from helper import VAST, Untouchable, flipped, square_of_data, text

TOP = pathlib.Path(__file__).resolve().parent.parent

PARAMETERS = {
    "room": "v l", "bits": "v t", "least": "l v t", "make": "v l m t", "read": "v d u", "weigh": "v d",
    "format_of": "l m", "nearest": "x", "size": "v", "place": "v i", "check": "e d", "mend": "e d k", "times": "a b",
}

SIGNS = text("ab12345678AB")
ROWS = squares.make(3, 2, 8, SIGNS)[2:]
SPOILED = flipped(ROWS, [(28, 28), (15, 15), (6, 0)])
UNKNOWN = [0] * 11 + [7 << 11] * 2
WORD = SIGNS + squares.check(6, SIGNS)[1:]
CAME = WORD[:3] + [0, 1] + WORD[5:]

# Of each call arguments that are answered, and such as are refused, for each refusal that it has.
ANSWERED = [
    ("room", 1, 0), ("room", 12, 3),
    ("bits", 1, []), ("bits", 9, SIGNS), ("bits", 10, SIGNS), ("bits", 12, [97] * 400),
    ("least", 0, 1, []), ("least", 3, 1, SIGNS), ("least", 3, 12, SIGNS),
    ("make", 1, 0, 0, []), ("make", 2, 1, 8, SIGNS), ("make", 10, 3, 7, SIGNS),
    ("read", 3, ROWS, []), ("read", 3, SPOILED, UNKNOWN), ("read", 3, ROWS + [VAST] * 900, UNKNOWN[:5]),
    ("weigh", 3, ROWS), ("weigh", 3, []), ("weigh", 12, [VAST] * 1000),
    ("format_of", 0, 0), ("format_of", 3, 7),
    ("nearest", 0x5412), ("nearest", 0x5412 ^ 7),
    ("size", 7), ("size", 12),
    ("place", 1, 0), ("place", 12, 3727),
    ("check", 1, []), ("check", 6, SIGNS), ("check", 64, [255] * 191),
    ("mend", 6, WORD, []), ("mend", 6, CAME, []), ("mend", 6, CAME, [3, 17]), ("mend", 64, [0] * 255, [0, 254]),
    ("times", 0, 0), ("times", 2, 128), ("times", 255, 255),
]
REFUSED = [
    (-1, "room", 0, 0), (-1, "room", 1, 4), (-1, "room", VAST, VAST),
    (-1, "bits", 13, SIGNS), (-1, "bits", 1, SIGNS * 34), (-1, "bits", VAST, []),
    (-1, "least", 4, 1, SIGNS), (-1, "least", 0, 0, SIGNS), (-1, "least", 0, 1, [48] * 401),
    (-2, "least", 3, 1, [97] * 400),
    (-1, "make", 0, 0, 0, SIGNS), (-1, "make", 1, 4, 0, SIGNS), (-1, "make", 1, 0, 9, SIGNS),
    (-1, "make", 1, 0, 0, [48] * 65536), (-2, "make", 1, 3, 8, SIGNS * 5),
    (-1, "read", 0, ROWS, UNKNOWN), (-2, "read", 3, [], []), (-3, "read", 3, ROWS, [0] * 9 + [VAST] * 20),
    (-4, "read", 1, square_of_data(1, 3, 2, [0xF0] + [0] * 8), []),
    (-1, "weigh", 13, ROWS),
    (-1, "format_of", 4, 0), (-1, "format_of", 0, 8),
    (-1, "nearest", 2 ** 15), (-1, "nearest", VAST), (-1, "nearest", 0),
    (-1, "size", 0), (-1, "size", 6), (-1, "size", 13),
    (-1, "place", 0, 0), (-1, "place", 1, 208), (-1, "place", 1, VAST),
    (-1, "check", 0, SIGNS), (-1, "check", 65, SIGNS), (-1, "check", 1, [1] * 255), (-1, "check", 1, [1] * 65536),
    (-1, "mend", 0, WORD, []), (-1, "mend", 6, [1] * 5, []), (-1, "mend", 6, [1] * 65536, []),
    (-1, "mend", 6, WORD, [1, 1]), (-1, "mend", 6, WORD, [18]), (-2, "mend", 6, [1, 2, 3] * 6, []),
    (-1, "times", 256, 0), (-1, "times", 0, VAST),
]
CALLS = ANSWERED + [refused[1:] for refused in REFUSED]

# With the longest inputs that there may be.
LONGEST = [
    ("bits", 9, [97, 49] * 200), ("bits", 1, [1] * 65536),
    ("least", 0, 1, [97, 49] * 200), ("least", 0, 1, [1] * 65536),
    ("make", 12, 0, 8, text("7" * 400)), ("make", 12, 0, 8, [1] * 65536), ("read", 12, [VAST] * 1000, [VAST] * 1000),
    ("read", 12, squares.make(12, 0, 0, text("7" * 400))[2:] + [VAST] * 900, [0] * 1000), ("weigh", 12, [VAST] * 1000),
    ("place", 12, VAST), ("nearest", VAST), ("check", 64, [9] * 191), ("check", 64, [9] * 65536),
    ("mend", 64, [9] * 255, list(range(1000))), ("mend", 64, [9] * 65536, [VAST] * 1000),
    ("mend", 64, [9] * 255, list(range(64))), ("mend", 64, [9] * 255, []), ("times", VAST, VAST),
]


def answer(call):
    return getattr(squares, call[0])(*call[1:])


def guarded(call):
    """The same call, with lists that can't be changed."""
    return [Untouchable(argument) if isinstance(argument, list) else argument for argument in call]


def what_modules_hold():
    """All that the package's modules hold at their tops, and what its classes hold."""
    found = {}
    for name, module in sorted(sys.modules.items()):
        if name.split(".")[0] == "fieldsquares":
            for key, value in vars(module).items():
                if not key.startswith("__"):
                    found[name, key] = sorted(vars(value)) if inspect.isclass(value) else repr(value)
    return found


class Interface(unittest.TestCase):
    def test_names_and_arguments(self):
        for name, parameters in PARAMETERS.items():
            found = inspect.signature(getattr(squares, name)).parameters.values()
            self.assertEqual([parameter.name for parameter in found], parameters.split(), name)
            for parameter in found:
                self.assertEqual(parameter.kind, parameter.POSITIONAL_OR_KEYWORD, name)
                self.assertIs(parameter.default, parameter.empty, name)

    def test_every_call_is_among_those_tried_here(self):
        self.assertEqual({call[0] for call in ANSWERED}, set(PARAMETERS))
        self.assertEqual({refused[1] for refused in REFUSED}, set(PARAMETERS))


class Answers(unittest.TestCase):
    def test_lists_of_whole_numbers(self):
        for call in CALLS:
            self.assertIs(type(answer(call)), list, call)
            self.assertEqual({type(number) for number in answer(call)}, {int}, call)

    def test_a_refusal_is_its_number_alone(self):
        for expected, *call in REFUSED:
            self.assertEqual(answer(call), [expected], call)

    def test_any_other_answer_has_no_number_below_0(self):
        for call in ANSWERED:
            self.assertGreaterEqual(min(answer(call)), 0, call)

    def test_how_long_they_are(self):
        # Where a list is answered, at which place it is told how many it has; else how many numbers there are.
        lists = {"make": 1, "read": 6, "check": 0, "mend": 1}
        counts = {"place": 2, "times": 2}
        for call in ANSWERED:
            found = answer(call)
            if call[0] in lists:
                at = lists[call[0]]
                self.assertEqual(len(found), at + 1 + found[at], call)
            else:
                self.assertEqual(len(found), counts.get(call[0], 1), call)


class NothingIsChanged(unittest.TestCase):
    def test_what_is_handed_in_is_as_it_was_not_for_a_while_either(self):
        for call in CALLS:
            handed = guarded(call)
            self.assertEqual(answer(handed), answer(call), call)
            self.assertEqual(handed, list(call))

    def test_what_is_answered_is_no_list_that_was_handed_in(self):
        for call in CALLS:
            found = answer(call)
            self.assertFalse(any(found is argument for argument in call), call)


class NothingIsKept(unittest.TestCase):
    def test_like_calls_answer_alike_with_all_others_between_them(self):
        first = [answer(call) for call in CALLS]
        kept = [list(found) for found in first]
        for found in first:
            # What becomes of an answer is nothing to the next one.
            found[0] = 77
            found.append(77)
        self.assertEqual([answer(call) for call in reversed(CALLS)], kept[::-1])
        self.assertEqual([answer(call) for call in CALLS], kept)

    def test_another_run_answers_alike_in_another_order(self):
        script = (
            "import sys; sys.path[:0] = [sys.argv[1], sys.argv[1] + '/tests']; sys.dont_write_bytecode = True\n"
            "import test_calls\n"
            "print([test_calls.answer(call) for call in test_calls.CALLS[::-1]])\n"
        )
        told = subprocess.run([sys.executable, "-c", script, str(TOP)], capture_output=True, text=True, check=True)
        self.assertEqual(told.stdout, repr([answer(call) for call in CALLS][::-1]) + "\n")

    def test_the_modules_hold_what_they_held(self):
        before = what_modules_hold()
        for call in CALLS:
            answer(call)
        self.assertEqual(what_modules_hold(), before)
        self.assertIn(("fieldsquares.squares", "LIGHTEST"), before)


class NothingElseIsDone(unittest.TestCase):
    def test_nothing_is_printed(self):
        printed = io.StringIO()
        with contextlib.redirect_stdout(printed), contextlib.redirect_stderr(printed):
            for call in CALLS:
                answer(call)
        self.assertEqual(printed.getvalue(), "")

    def test_only_the_package_s_own_modules_are_imported(self):
        script = (
            "import sys; sys.path[:0] = [sys.argv[1]]; sys.dont_write_bytecode = True; before = set(sys.modules)\n"
            "from fieldsquares import squares\n"
            "squares.read(2, squares.make(2, 0, 8, [97])[2:], [])\n"
            "squares.mend(2, [1, 2, 3], [0])\n"
            "print(sorted({name.split('.')[0] for name in set(sys.modules) - before}))\n"
        )
        told = subprocess.run([sys.executable, "-c", script, str(TOP)], capture_output=True, text=True, check=True)
        self.assertEqual(told.stdout, "['fieldsquares']\n")

    def test_few_calls_stand_within_one_another_however_long_the_input(self):
        limit = sys.getrecursionlimit()
        sys.setrecursionlimit(len(inspect.stack()) + 40)
        try:
            for call in LONGEST:
                answer(call)
        finally:
            sys.setrecursionlimit(limit)


if __name__ == "__main__":
    unittest.main()
