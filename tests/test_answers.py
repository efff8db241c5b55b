import ast
import contextlib
import io
import pathlib
import unittest
from unittest import mock

import threebouts
from tests.asking import ask, begins, check, joined, long, odds, split, wait
from threebouts.ring import answers

MIXED = [
    odds(0, 1, 2), begins(100, 50, 0), odds(0, 0, 2), long(1, 2), begins(1, 101, 2), wait(1),
    check(0, 1, []), check(0, 1, [0, 0, 1]), wait(3), begins(0, 0, 0), long(0, 1), check(2, 2, [1]),
    begins(50, 50, 50), long(0, 1),
]
MIXED_SAID = [
    [0, 2, 7], [0], [-2], [0, 3, 1], [-1], [0, 0, 1],
    [-1], [2, 3, 2, 0], [-2], [0], [-6], [-2],
    [0], [0, 3, 1],
]


class Answers(unittest.TestCase):
    def test_one_call_alone_as_it_lies(self):
        self.assertEqual(answers([0, 3, 60, 70, 20, 0]), [1, 0])
        self.assertEqual(answers([1, 3, 0, 1, 2, 0]), [3, 0, 2, 7])
        self.assertEqual(answers([2, 2, 0, 1, 0]), [3, 0, 3, 1])
        self.assertEqual(answers([3, 1, 0, 0]), [3, 1, 5, 14])
        self.assertEqual(answers([4, 5, 0, 1, 0, 0, 1, 0]), [4, 2, 3, 2, 0])

    def test_one_refusal_alone_as_it_lies(self):
        self.assertEqual(answers([0, 3, 0, 101, 0, 0]), [1, -1])
        self.assertEqual(answers([1, 3, 0, 1, 3, 0]), [1, -2])
        self.assertEqual(answers([4, 2, 0, 1, 0]), [1, -1])
        self.assertEqual(answers([4, 2, 1, 1, 0]), [1, -2])

    def test_several_calls_refused_ones_among_them(self):
        self.assertEqual(ask(*MIXED), MIXED_SAID)

    def test_several_calls_as_they_lie(self):
        self.assertEqual(
            answers([0, 3, 0, 0, 0, 0, 3, 1, 2, 0, 4, 3, 0, 1, 1, 0, 2, 2, 0, 0, 0]),
            [1, 0, 1, -6, 4, 3, 1, 0, 1, 1, -2])

    def test_sixty_calls(self):
        calls = (MIXED * 5)[:60]
        due = (MIXED_SAID * 5)[:60]
        self.assertEqual(ask(*calls), due)
        bouts = [1] + [0] * 19
        self.assertEqual(ask(*[check(0, 1, bouts)] * 60), [[3, 20, 2, 0]] * 60)

    def test_the_list_is_unchanged_and_asked_twice_answers_the_same(self):
        calls = joined(MIXED)
        before = list(calls)
        first = answers(calls)
        self.assertEqual(calls, before)
        self.assertEqual(answers(calls), first)
        self.assertEqual(calls, before)

    def test_nothing_is_kept_from_one_list_to_the_next(self):
        answers(begins(100, 50, 0))
        self.assertEqual(ask(odds(0, 1, 0), long(0, 1)), [[0, 5, 14], [0, 3, 1]])

    def test_what_is_given_back_is_not_shared(self):
        said = answers(odds(0, 1, 2))
        said.append(7)
        self.assertEqual(answers(odds(0, 1, 2)), [3, 0, 2, 7])

    def test_whole_numbers_in_a_list(self):
        said = answers(joined(MIXED))
        self.assertIs(type(said), list)
        self.assertEqual({type(number) for number in said}, {int})

    def test_prints_nothing(self):
        out = io.StringIO()
        with contextlib.redirect_stdout(out), contextlib.redirect_stderr(out):
            answers(joined(MIXED))
        self.assertEqual(out.getvalue(), "")

    def test_reads_nothing(self):
        calls = joined(MIXED)
        refusing = AssertionError("something is read")
        with mock.patch("builtins.open", side_effect=refusing), mock.patch("builtins.input", side_effect=refusing):
            self.assertEqual(split(answers(calls)), MIXED_SAID)

    def test_imports_nothing(self):
        for file in sorted(pathlib.Path(threebouts.__file__).parent.glob("*.py")):
            for node in ast.walk(ast.parse(file.read_text(encoding="utf-8"))):
                self.assertNotIsInstance(node, (ast.Import, ast.ImportFrom), file)
