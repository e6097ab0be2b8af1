"""Tests of what the document promises over all calls, whichever of them is made."""

import ast
import contextlib
import inspect
import io
import pathlib
import unittest

import hatboxes
from hatboxes import games

PASS = 2

INTERFACE = {
    "misses": "(n, q, length, g, table)",
    "least": "(n, q, length, g, table)",
    "line": "(n, q, hats)",
    "passing": "(n, table)",
    "code": "(r, hats)",
    "boxes": "(n, k, p)",
    "swap": "(n, k, p)",
}

ANSWERED = (
    ("misses", (2, 2, 4, [2, 1], [0, 1, 1, 0]), [0]),
    ("misses", (2, 2, 4, [2, 1], [0, 1, 0, 1]), [2, 0, 1]),
    ("misses", (3, 2, 5, [4, 0, 1], [0, 1, 1, 0, 1]), [2, 0, 0, 1]),
    ("least", (2, 2, 4, [2, 1], [0, 1, 1, 0]), [1]),
    ("least", (2, 2, 4, [2, 1], [0, 1, 0, 1]), [0]),
    ("line", (0, 1, []), [0]),
    ("line", (4, 5, [0, 4, 1, 3]), [0, 3, 4, 1, 3]),
    ("passing", (1, [2]), [0]),
    ("passing", (3, [1, 2, 2, 0] * 3), [6]),
    ("code", (1, [0]), [0, 1]),
    ("code", (2, [1, 0, 1]), [0, PASS, 0, PASS]),
    ("boxes", (5, 3, [2, 3, 4, 1, 0]), [1]),
    ("boxes", (5, 2, [2, 3, 4, 1, 0]), [0]),
    ("swap", (5, 3, [2, 3, 4, 1, 0]), [0]),
    ("swap", (5, 2, [2, 3, 4, 1, 0]), [1, 0, 2]),
)

# Each row is refused for what its number tells, and for whatever would be refused later.
REFUSED = (
    # Out of range, though one doesn't see back, the table is too short, and a guess is no colour.
    ("misses", (2, 5, 1, [2, 0], [9]), -2),
    ("misses", (0, 2, 4, [], []), -2),
    ("misses", (2, 2, 8193, [], []), -2),
    ("misses", (2, 2, 4, [2, 0], [0, 1, 1, 0]), -3),
    ("misses", (2, 2, 3, [2, 1], [0, 1, 1]), -3),
    ("misses", (2, 2, 4, [2, 1], [0, 1, 2, 0]), -3),
    ("least", (2, 5, 1, [2, 0], [9]), -2),
    ("least", (7, 2, 4, [], []), -2),
    ("least", (2, 2, -1, [], []), -2),
    ("least", (2, 2, 4, [3, 1], [0, 1, 1, 0]), -3),
    ("least", (2, 2, 5, [2, 1], [0, 1, 1, 0, 0]), -3),
    ("least", (2, 2, 4, [2, 1], [0, 1, 1, 255]), -3),
    ("line", (4097, 2, []), -2),
    ("line", (2, 201, [255, 0]), -2),
    ("line", (2, 200, [255, 0]), -3),
    ("passing", (0, []), -2),
    ("passing", (9, []), -2),
    ("passing", (1, [3]), -3),
    ("code", (0, []), -2),
    ("code", (9, []), -2),
    ("code", (2, [0, 0, 2]), -3),
    ("boxes", (0, 0, []), -2),
    ("boxes", (2, 3, [1, 1]), -2),
    ("boxes", (2, 2, [1, 1]), -3),
    ("swap", (1025, 1, []), -2),
    # Neither in range nor an order; then no order; then an order in which no exchange helps.
    ("swap", (3, -1, [1, 2, 2]), -2),
    ("swap", (3, 0, [1, 2, 2]), -3),
    ("swap", (3, 1, [1, 2, 3]), -3),
    ("swap", (3, 0, [1, 2, 0]), -5),
    ("swap", (3, 1, [1, 2, 0]), -5),
    ("swap", (4, 1, [1, 0, 3, 2]), -5),
)

LARGEST = (
    ("misses", (6, 4, 6144, [62, 61, 59, 55, 47, 31], [0, 1, 2, 3] * 1536)),
    ("least", (6, 4, 6144, [62, 61, 59, 55, 47, 31], [0, 1, 2, 3] * 1536)),
    ("line", (4096, 200, [199, 0, 7, 31] * 1024)),
    ("passing", (8, [0, 1, 2, 2] * 256)),
    ("code", (8, [1, 0, 1] * 85)),
    ("boxes", (1024, 1023, list(range(1, 1024)) + [0])),
    ("swap", (1024, 511, list(range(1, 1024)) + [0])),
    ("swap", (1024, 1023, list(range(1, 1024)) + [0])),
)

CALLS = (
    [(name, given) for name, given, answer in ANSWERED]
    + [(name, given) for name, given, refusal in REFUSED]
    + list(LARGEST)
)


class Untouched(list):
    """A list that can't be changed, not for a while either."""


def fail_to_change(*given, **named):
    raise AssertionError("what was handed in was changed")


for changing in (
    "__setitem__",
    "__delitem__",
    "__iadd__",
    "__imul__",
    "append",
    "clear",
    "extend",
    "insert",
    "pop",
    "remove",
    "reverse",
    "sort",
):
    setattr(Untouched, changing, fail_to_change)


def answer_of(name, given):
    return getattr(games, name)(*given)


def with_lists_as(kind, given):
    return tuple(kind(value) if isinstance(value, list) else value for value in given)


class Answers(unittest.TestCase):
    def test_the_interface(self):
        for name, arguments in INTERFACE.items():
            self.assertEqual(str(inspect.signature(getattr(games, name))), arguments)
            self.assertEqual(getattr(games, name).__module__, "hatboxes.games")

    def test_each_call_is_among_those_answered_and_those_refused(self):
        for calls in (ANSWERED, REFUSED):
            self.assertEqual({name for name, given, told in calls}, set(INTERFACE))

    def test_what_is_answered(self):
        for name, given, answer in ANSWERED:
            with self.subTest(name=name, given=given):
                self.assertEqual(answer_of(name, given), answer)

    def test_a_refusal_stands_alone_and_the_first_one_is_told(self):
        for name, given, refusal in REFUSED:
            with self.subTest(name=name, given=given):
                self.assertEqual(answer_of(name, given), [refusal])

    def test_every_number_answered_is_an_int_and_never_a_bool(self):
        for name, given in CALLS:
            with self.subTest(name=name, given=[str(value)[:20] for value in given]):
                answer = answer_of(name, given)
                self.assertIs(type(answer), list)
                self.assertEqual({type(number) for number in answer}, {int})


class EachCallIsByItself(unittest.TestCase):
    def test_what_is_handed_in_stays_as_it_was(self):
        for name, given in CALLS:
            with self.subTest(name=name, given=[str(value)[:20] for value in given]):
                handed_in = with_lists_as(list, given)
                answer_of(name, handed_in)
                self.assertEqual(handed_in, given)

    def test_it_is_not_changed_for_a_while_either(self):
        for name, given in CALLS:
            with self.subTest(name=name, given=[str(value)[:20] for value in given]):
                answer = answer_of(name, with_lists_as(Untouched, given))
                self.assertEqual(answer, answer_of(name, given))

    def test_twice_in_a_row_and_with_all_other_calls_in_between(self):
        first = []
        for name, given in CALLS:
            answer = answer_of(name, given)
            first.append(list(answer))
            # A caller may do with the answer what they like.
            answer.append(99)
            self.assertEqual(answer_of(name, given), first[-1])
        for (name, given), before in reversed(list(zip(CALLS, first))):
            self.assertEqual(answer_of(name, given), before)

    def test_nothing_is_printed(self):
        out, err = io.StringIO(), io.StringIO()
        with contextlib.redirect_stdout(out), contextlib.redirect_stderr(err):
            for name, given in CALLS:
                answer_of(name, given)
        self.assertEqual((out.getvalue(), err.getvalue()), ("", ""))

    def test_nothing_is_imported_or_read(self):
        for file in pathlib.Path(hatboxes.__file__).parent.glob("*.py"):
            for node in ast.walk(ast.parse(file.read_text(encoding="utf-8"))):
                self.assertNotIsInstance(node, (ast.Import, ast.ImportFrom))
                if isinstance(node, ast.Name):
                    self.assertNotIn(node.id, ("__import__", "open", "input", "print", "exec", "eval"))


class CallsThatTellTheSame(unittest.TestCase):
    def test_passing_wins_the_rows_that_code_wins(self):
        for r, won in ((1, 1), (2, 6), (3, 112)):
            n = (1 << r) - 1
            table = []
            for v in range(n):
                for entry in range(1 << n - 1):
                    seen = [entry >> place & 1 for place in range(n - 1)]
                    # What somebody guesses doesn't hang on the hat they don't see.
                    guesses = [games.code(r, seen[:v] + [own] + seen[v:])[1 + v] for own in (0, 1)]
                    self.assertEqual(guesses[0], guesses[1])
                    table.append(guesses[0])
            self.assertEqual(games.passing(n, table), [won])

    def test_all_find_theirs_once_what_swap_tells_is_exchanged(self):
        p = [(box * 13 + 5) % 64 for box in range(64)]
        told = {}
        for k in range(65):
            answer = games.swap(64, k, p)
            told[answer[0]] = True
            self.assertEqual(games.boxes(64, k, p), [1 if answer == [0] else 0])
            if answer[0] == 1:
                other = list(p)
                other[answer[1]], other[answer[2]] = p[answer[2]], p[answer[1]]
                self.assertEqual(games.boxes(64, k, other), [1])
        self.assertEqual(set(told), {0, 1, -5})


if __name__ == "__main__":
    unittest.main()
