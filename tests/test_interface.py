"""The one list of calls and the one list of answers."""

import contextlib
import io
import time
import unittest

from tests.calls import ask, changes, compare, copy, counts, cut, distance, line_of, new, old, paint, put, row, swap
from tests.calls import take, text, tokens, version
from trackmarks.desk import Desk, UnknownCall, answers

TOP = 10 ** 18
SOME_CALLS = [
    old("ab"), copy(), put(1, "x"), cut(0, 1), paint(1, 0, 2, 3, 4), swap(), compare(0, 1), counts(), row(), changes(),
    version(3, 1), take(2), text(0), tokens(0, 1), distance(1),
    new([9]), put(0, ""), cut(5, 5), paint(2, 0, 0, 0, 0), compare(2, 0), counts(), row(), changes(), version(), take(),
    text(2), tokens(0, 2), distance(2), old("")]
SOME_ANSWERS = [
    1, 3, 1, 3, 1, 4, 1, 3, 1, 2, 1, 3, 2, 3, 3, 4, 2, 1, 1, 1,
    36, 4, 120, 0, 0, 0, 4, 0, 1, 0, 97, 0, 0, 0, 0, 2, 0, 0, 98, 0, 0, 0, 4, 0, 0, 1, 3, 3, 0, 10, 0, 0, 0, 0, 0, 0, 0,
    13, 3, 2, 0, 1, 0, 1, 1, 0, 0, 3, 0, 0, 1,
    11, 2, 98, 0, 0, 0, 0, 10, 0, 0, 0, 0, 1, 4,
    21, 4, 120, 0, 0, 0, 4, 97, 0, 0, 0, 0, 98, 0, 0, 0, 4, 10, 0, 0, 0, 0, 2, 1, 3, 1, 5,
    1, -2, 1, -2, 1, -1, 1, -2, 1, -2, 1, -4, 1, -4, 1, -4, 1, -4, 1, -4, 1, -2, 1, -2, 1, -2, 1, 1]
SECONDS = 20


def crowded_lines():
    """Lines of 400 calls with texts of 120 inner letters that leave much to be compared."""
    texts = [("a" * 120, "a" * 120), ("ab" * 60, "ba" * 60), ("a " * 60, "a a" * 40), ("ab cd " * 20, "cd ab " * 20)]
    for old_text, new_text in texts:
        for grain in (0, 1):
            calls = [old(old_text), new(new_text)]
            calls.extend([paint(place % 2, place, place + 20, place % 4, place) for place in range(98)])
            calls.extend([compare(grain, place % 3) for place in range(300)])
            yield calls


def line_of_all_calls(grain):
    """A line of 400 calls, each of the sixteen 25 times, with texts that are full again and again."""
    calls = []
    for turn in range(25):
        full = ("ab cd " * 20, "cd ab " * 20)
        calls += [old(full[turn % 2]), copy(), cut(turn, 60), put(0, "xy " * 20)]
        calls += [paint(turn % 2, turn, 100, turn % 4, turn), swap(), compare(grain, turn % 3), counts(), row()]
        calls += [changes(), version(1, 2, 1), text(0), tokens(1, grain), distance(1 - grain), take(1), new("")]
    return calls


class InterfaceTest(unittest.TestCase):

    def test_the_list_that_is_given_back(self):
        self.assertEqual(answers(line_of(SOME_CALLS)), SOME_ANSWERS)

    def test_one_call(self):
        self.assertEqual(answers([2]), [1, 1])
        self.assertEqual(answers([7, 0, 0]), [2, 0, 0])
        self.assertEqual(answers([0, 0]), [1, 1])

    def test_answers_are_whole_numbers(self):
        self.assertEqual({type(number) for number in answers(line_of(SOME_CALLS))}, {int})

    def test_a_refused_call_is_read_to_its_end(self):
        calls = [old([7] * 2000), new([0, 1, 2]), put(-1, [15, 15]), distance(TOP), version(7, 7), take(12),
                 tokens(2, 2), text(8), compare(0, 0), version(*[2] * 2000), take(2, 2), copy()]
        self.assertEqual(ask(*calls), [[-2], [-2], [-1], [-2], [-4], [-4], [-2], [-2], [0, 0], [-2], [-2], [1]])

    def test_what_is_handed_in_is_not_changed(self):
        calls = line_of(SOME_CALLS)
        before = list(calls)
        answers(calls)
        self.assertEqual(calls, before)

    def test_nothing_is_kept_from_one_time_to_the_next(self):
        calls = line_of(SOME_CALLS)
        self.assertEqual(answers(calls), answers(calls))
        answers(line_of([old("abc"), new("xyz"), paint(0, 0, 4, 0, 9), compare(0, 0)]))
        self.assertEqual(ask(distance(0), copy(), swap(), paint(0, 0, 1, 0, 0)), [[0], [1], [1], [0]])

    def test_two_desks_share_nothing(self):
        one = Desk()
        one.set_old([97])
        one.paint_letters(1, 0, 1, 0, 5)
        self.assertEqual(Desk().distance(0), [0])

    def test_nothing_is_printed(self):
        printed = io.StringIO()
        with contextlib.redirect_stdout(printed), contextlib.redirect_stderr(printed):
            answers(line_of(SOME_CALLS))
        self.assertEqual(printed.getvalue(), "")

    def test_calls_that_are_not_there(self):
        for number in (-1, 16, TOP):
            with self.assertRaises(UnknownCall):
                answers([number])

    def test_400_calls_with_full_texts(self):
        for calls in crowded_lines():
            self.assertEqual(len(calls), 400)
            line = line_of(calls)
            self.assertLessEqual(len(line), 17000)
            start = time.monotonic()
            ask(*calls)
            self.assertLess(time.monotonic() - start, SECONDS)

    def test_400_calls_with_each_of_the_calls_among_them(self):
        for grain in (0, 1):
            calls = line_of_all_calls(grain)
            self.assertEqual(len(calls), 400)
            self.assertEqual({call[0] for call in calls}, set(range(16)))
            line = line_of(calls)
            self.assertLessEqual(len(line), 17000)
            before = list(line)
            start = time.monotonic()
            given = answers(line)
            self.assertLess(time.monotonic() - start, SECONDS)
            self.assertEqual(line, before)
            self.assertEqual(answers(line), given)
            self.assertGreater(min(len(answer) for call, answer in zip(calls, ask(*calls)) if call[0] in (9, 11)), 200)

    def test_397_long_answers(self):
        for call in (row(), version(2)):
            made = [old("a" * 120), new("b" * 120), compare(1, 1)]
            start = time.monotonic()
            given = ask(*made, *[call] * 397)
            self.assertLess(time.monotonic() - start, SECONDS)
            self.assertEqual(given[3][0], 241)
            self.assertEqual(given[3:], [given[3]] * 397)

    def test_full_texts_nest_nothing(self):
        self.assertEqual(ask(old("ab" * 60), new("b" * 120), compare(0, 1))[-1][1], 120)
        self.assertEqual(ask(old("a" * 120), new("b" * 120), compare(1, 1))[-1], [2, 240])
