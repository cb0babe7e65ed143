"""The interface: how lines are handed in, what is given back, and what holds of all functions."""

import ast
import contextlib
import io
import pathlib
import random
import sys
import unittest

import bittenbar
from bittenbar.bar import answers
from plainbar import (BACK_CALL, GOOD_CALL, LARGEST, LONG_CALL, PLAY_CALL, SHOWS_CALL, TURNED_CALL, UNDER_CALL,
                      WON_CALL, PlainBar, bar, bite, line, lost, shape, told)

PACKAGE = pathlib.Path(bittenbar.__file__).parent
ALONE = {"shows": SHOWS_CALL, "won": WON_CALL, "good": GOOD_CALL, "long": LONG_CALL, "play": PLAY_CALL,
         "under": UNDER_CALL, "turned": TURNED_CALL}


class UnchangedList(list):
    """A list that tells of each change, even one that is taken back."""

    def refuse(self, *given, **named):
        raise AssertionError("what was handed in is changed")

    append = extend = insert = pop = remove = clear = sort = reverse = refuse
    __setitem__ = __delitem__ = __iadd__ = __imul__ = refuse


def drawn_call(draw):
    """A call as a game has it: mostly allowed, now and then at an edge or beyond it."""
    edge = [0, 1, 5, 6, 7, LARGEST]
    kind = draw.choice(["bar", "shape", "any shape", "bite", "bite", "back", "back", "lost", *ALONE])
    if kind == "bar":
        return bar(draw.choice([2, 3, 4, 5, *edge]), draw.choice([2, 3, 4, 5, 6, *edge]))
    if kind == "shape":
        return shape(*sorted([draw.randint(1, 6) for row in range(draw.randint(1, 5))], reverse=True))
    if kind == "any shape":
        return shape(*[draw.choice([1, 2, 3, *edge]) for row in range(draw.choice([0, 1, 2, 3, 5, 6, 40]))])
    if kind == "bite":
        return bite(draw.choice([1, 2, 3, 4, draw.choice(edge)]), draw.choice([1, 2, 3, 4, 5, draw.choice(edge)]))
    if kind == "lost":
        return lost(draw.choice([draw.randint(1, 30), 30, 31, draw.choice(edge)]))
    return BACK_CALL if kind == "back" else ALONE[kind]


def drawn_line(draw, length):
    """Its first call lays a large shape, so that there is something to bite at."""
    return [bar(5, 6), *[drawn_call(draw) for call in range(length - 1)]]


class ListGivenBack(unittest.TestCase):
    def test_how_many_numbers_then_these(self):
        self.assertEqual(
            answers([0, 2, 3, 4, 2, 2, 2, 4, 3, 3, 1, 2, 3, 2, 5, 4, 0, 6, 1, 2, 1, 1, 5]),
            [1, 6, 4, 2, 3, 3, 0, 1, 2, 4, 2, 3, 1, 1, 1, 6, 1, -9, 1, 5, 1, 0, 4, 2, 3, 2, 0, 1, -1, 1, 5, 1, -6])

    def test_the_numbers_of_all_calls(self):
        self.assertEqual(
            answers([0, 2, 2, 5, 6, 7, 8, 4, 9, 10, 3, 11, 3, 1, 2, 3, 1, 11, 2, 1, 1, 11, 10, 31]),
            [1, 4, 1, 1, 3, 1, 2, 2, 1, 4, 2, 2, 2, 4, 2, 2, 1, 1, 2, 4, 2, 4, 1, 2, 2, 1, 3, 2, 2, 1, 1, 4,
             1, 4, 4, 3, 2, 1, 1, 1, 4, 1, -6, 1, -1])

    def test_the_examples_of_the_readme(self):
        self.assertEqual(answers([0, 2, 3, 5, 2, 2, 3, 4]), [1, 6, 1, 1, 1, 1, 4, 2, 3, 2, 1])
        self.assertEqual(answers([1, 3, 4, 3, 1, 6, 7, 8, 4]),
                         [1, 8, 5, 2, 1, 3, 3, 1, 1, 6, 2, 1, 3, 5, 3, 2, 2, 1, 1])

    def test_lines_of_one_call(self):
        for call, answer in [(bar(3, 4), [1, 12]), (shape(3, 2, 2), [1, 7]), (bite(1, 1), [1, 1]),
                             (BACK_CALL, [1, -9]), (SHOWS_CALL, [3, 1, 1, 0]), (WON_CALL, [1, 0]),
                             (GOOD_CALL, [1, 0]), (LONG_CALL, [1, 1]), (PLAY_CALL, [2, 1, 1]),
                             (UNDER_CALL, [2, 1, 1]), (lost(5), [4, 3, 2, 3, 2]), (TURNED_CALL, [2, 1, 1])]:
            with self.subTest(call=call):
                self.assertEqual(answers(call), answer)

    def test_lines_of_forty_calls(self):
        self.assertEqual(answers(line(*[SHOWS_CALL] * 40)), [3, 1, 1, 0] * 40)
        self.assertEqual(answers(line(*[shape(*[1] * 40)] * 40)), [1, -1] * 40)
        self.assertEqual(answers(line(*[bite(1, 1), BACK_CALL] * 20)), [1, 1, 1, 1] * 20)
        self.assertEqual(answers(line(*[bar(5, 6), WON_CALL] * 20)), [1, 30, 1, 1] * 20)
        self.assertEqual(answers(line(*[bar(5, 6), UNDER_CALL] * 20)), [1, 30, 2, 461, 35] * 20)
        self.assertEqual(answers(line(*[lost(25), lost(LARGEST)] * 20)), [7, 1, 5, 6, 6, 6, 5, 2, 1, -1] * 20)

    def test_a_list_of_whole_numbers(self):
        given = answers(line(bar(5, 6), WON_CALL, bite(3, 3), SHOWS_CALL, WON_CALL, BACK_CALL, BACK_CALL, bite(0, 0),
                             *ALONE.values(), lost(8), lost(30), lost(0)))
        self.assertIs(type(given), list)
        self.assertEqual({type(number) for number in given}, {int})

    def test_drawn_lines_against_the_plain_bar(self):
        draw = random.Random(20)
        for length in [1, 2, 5, 40, 40, 40] * 60:
            calls = drawn_line(draw, length)
            plain = PlainBar()
            with self.subTest(calls=calls):
                self.assertEqual(told(*calls), [plain.answer(call) for call in calls])

    def test_the_drawn_lines_have_all_calls_and_all_refusals(self):
        draw = random.Random(20)
        met = set()
        for times in range(180):
            plain = PlainBar()
            for call in drawn_line(draw, 40):
                met.add((call[0], min(plain.answer(call)[0], 0)))
        self.assertEqual(met, {(kind, 0) for kind in range(12)} | {(0, -1), (1, -1), (2, -6), (2, -2), (3, -9),
                         (5, -6), (6, -6), (7, -6), (8, -6), (9, -6), (10, -1), (11, -6)})


class WhatHoldsOfAll(unittest.TestCase):
    def setUp(self):
        draw = random.Random(7)
        self.lines = [line(*drawn_line(draw, 40)) for times in range(40)]

    def test_what_is_handed_in_is_not_changed(self):
        for calls in self.lines:
            before = list(calls)
            answers(calls)
            self.assertEqual(calls, before)
            answers(UnchangedList(calls))

    def test_the_same_list_answers_the_same_twice(self):
        first = [answers(calls) for calls in self.lines]
        self.assertEqual([answers(calls) for calls in self.lines], first)
        self.assertEqual([answers(calls) for calls in self.lines[::-1]], first[::-1])

    def test_each_line_begins_anew(self):
        answers(line(bar(3, 4), bite(2, 2), bite(1, 1)))
        self.assertEqual(answers(line(SHOWS_CALL, BACK_CALL, WON_CALL)), [3, 1, 1, 0, 1, -9, 1, 0])

    def test_the_list_given_back_is_new_each_time(self):
        calls = line(bar(2, 2), SHOWS_CALL)
        answers(calls).clear()
        self.assertEqual(answers(calls), [1, 4, 4, 2, 2, 2, 0])

    def test_nothing_is_printed_read_or_imported_in_a_call(self):
        before = dict(sys.modules)
        read = sys.stdin
        sys.stdin = None
        try:
            with contextlib.redirect_stdout(io.StringIO()) as out, contextlib.redirect_stderr(io.StringIO()) as err:
                for calls in self.lines:
                    answers(calls)
        finally:
            sys.stdin = read
        self.assertEqual((out.getvalue(), err.getvalue()), ("", ""))
        self.assertEqual(dict(sys.modules), before)

    def test_the_package_imports_prints_and_reads_nothing(self):
        files = sorted(PACKAGE.glob("*.py"))
        self.assertIn("bar.py", [file.name for file in files])
        for file in files:
            for node in ast.walk(ast.parse(file.read_text(encoding="ascii"))):
                with self.subTest(file=file.name, row=getattr(node, "lineno", 0)):
                    self.assertNotIsInstance(node, (ast.Import, ast.ImportFrom))
                    if isinstance(node, ast.Name):
                        self.assertNotIn(node.id, ("print", "open", "input", "exec", "eval", "__import__"))

    def test_calls_are_not_nested_deeply(self):
        depth = 0
        frame = sys._getframe()
        while frame:
            depth += 1
            frame = frame.f_back
        limit = sys.getrecursionlimit()
        sys.setrecursionlimit(depth + 30)
        try:
            bitten = answers(line(bar(5, 6), WON_CALL, *[bite(1, 1), BACK_CALL] * 19))
            each = [answers(line(bar(5, 6), call)) for call in [*ALONE.values(), lost(25)]]
        finally:
            sys.setrecursionlimit(limit)
        self.assertEqual(bitten, [1, 30, 1, 1] + [1, 30, 1, 30] * 19)
        self.assertEqual([given[2:] for given in each],
                         [[7, 5, 6, 6, 6, 6, 6, 0], [1, 1], [3, 1, 3, 4], [1, 16], [2, 3, 4], [2, 461, 35],
                          [7, 6, 5, 5, 5, 5, 5, 5], [7, 1, 5, 6, 6, 6, 5, 2]])


if __name__ == "__main__":
    unittest.main()
