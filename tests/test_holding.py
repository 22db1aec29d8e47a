"""What a desk holds after each call: the texts, and a comparison or none."""

import unittest

from tests.calls import ask, changes, compare, copy, counts, cut, distance, new, old, paint, put, row, signs_of, swap
from tests.calls import take, text, tokens, version
from tests.test_changes import desk_with, shown, told

TOP = 10 ** 18
FULL = signs_of("a" * 120)

REFUSED = (
    (-2, lambda desk: desk.set_old([9])),
    (-5, lambda desk: desk.set_old(FULL + [97])),
    (-2, lambda desk: desk.set_new([TOP])),
    (-5, lambda desk: desk.set_new(FULL + [97])),
    (-1, lambda desk: desk.put_signs(-1, [97])),
    (-2, lambda desk: desk.put_signs(0, [])),
    (-2, lambda desk: desk.put_signs(0, [97, 31])),
    (-5, lambda desk: desk.put_signs(0, FULL)),
    (-1, lambda desk: desk.cut_letters(0, 6)),
    (-1, lambda desk: desk.cut_letters(1, 1)),
    (-2, lambda desk: desk.paint_letters(2, 0, 1, 0, 1)),
    (-2, lambda desk: desk.paint_letters(0, 0, 1, 4, 1)),
    (-2, lambda desk: desk.paint_letters(1, 0, 1, 0, 100)),
    (-1, lambda desk: desk.paint_letters(0, 0, 7, 0, 1)),
    (-2, lambda desk: desk.compare_texts(2, 0)),
    (-2, lambda desk: desk.compare_texts(0, 201)),
    (-2, lambda desk: desk.distance(-1)),
)

SETTING = (
    lambda desk: desk.set_old(signs_of("abcde")),
    lambda desk: desk.set_new(signs_of("cdeab")),
    lambda desk: desk.copy_old(),
    lambda desk: desk.put_signs(0, [97]),
    lambda desk: desk.cut_letters(0, 1),
    lambda desk: desk.paint_letters(0, 0, 1, 0, 1),
    lambda desk: desk.paint_letters(1, 0, 1, 0, 1),
    lambda desk: desk.paint_letters(0, 0, 1, 0, 0),
    lambda desk: desk.paint_letters(1, 0, 1, 0, 0),
    lambda desk: desk.swap_texts(),
)


def desk_that_compared():
    desk = desk_with("abcde", "cdeab", (1, 2, 3, 1, 4))
    desk.compare_texts(0, 1)
    return desk


def all_held(desk):
    entries = [piece.entries for piece in desk.comparison.row]
    return (list(desk.old_text), list(desk.new_text), shown(desk.comparison), entries, told(desk.comparison))


class HoldingTest(unittest.TestCase):

    def test_a_refused_call_leaves_everything_as_it_was(self):
        for refusal, call in REFUSED:
            desk = desk_that_compared()
            before = all_held(desk)
            comparison = desk.comparison
            self.assertEqual(call(desk), [refusal])
            self.assertIs(desk.comparison, comparison)
            self.assertEqual(all_held(desk), before)

    def test_a_refused_call_does_not_make_a_comparison(self):
        for refusal, call in REFUSED:
            desk = desk_with("abcde", "cdeab")
            self.assertEqual(call(desk), [refusal])
            self.assertIsNone(desk.comparison)

    def test_a_call_that_sets_a_text_leaves_no_comparison(self):
        for place, call in enumerate(SETTING):
            desk = desk_that_compared()
            call(desk)
            self.assertIsNone(desk.comparison, place)

    def test_distance_leaves_the_comparison(self):
        for grain in (0, 1):
            desk = desk_that_compared()
            before = all_held(desk)
            desk.distance(grain)
            self.assertEqual(all_held(desk), before)

    def test_distance_makes_no_comparison(self):
        desk = desk_with("abcde", "cdeab")
        desk.distance(0)
        self.assertIsNone(desk.comparison)

    def test_compare_takes_the_place_of_the_comparison_before(self):
        desk = desk_that_compared()
        self.assertEqual(shown(desk.comparison), "-a-bcde+a+b$")
        desk.compare_texts(1, 0)
        self.assertEqual(shown(desk.comparison), "-a-b-c-d-e+c+d+e+a+b$")
        self.assertEqual(len(desk.comparison.changes), 2)

    def test_compare_leaves_the_texts(self):
        desk = desk_with("abcde", "cdeab", (1, 2, 3, 1, 4))
        before = (list(desk.old_text), list(desk.new_text))
        desk.compare_texts(0, 1)
        self.assertEqual((desk.old_text, desk.new_text), before)

    def test_a_new_desk(self):
        desk = desk_with("", "")
        self.assertEqual(desk.old_text, [(10, (0, 0, 0, 0))])
        self.assertEqual(desk.new_text, [(10, (0, 0, 0, 0))])
        self.assertIsNone(desk.comparison)


TEXTS = [old("abcde"), new("cdeab"), paint(1, 2, 3, 1, 4)]
MADE = TEXTS + [compare(0, 1)]
ASKED = [text(0), text(1), counts(), row(), changes(), version(1), version(2)]

SETTING_CALLS = (
    old("abcde"), old("x"), new("cdeab"), new(""), copy(), put(0, "a"), cut(0, 1), paint(0, 0, 1, 0, 1),
    paint(1, 0, 1, 0, 1), paint(0, 0, 6, 0, 0), paint(1, 2, 3, 1, 4), swap(), take(), take(1), take(2, 1))

REFUSED_CALLS = (
    (-2, old([9])), (-5, old("a" * 121)), (-2, new([9])), (-5, new("a" * 121)), (-1, put(6, "a")), (-2, put(0, "")),
    (-5, put(0, "a" * 116)), (-1, cut(0, 6)), (-2, paint(2, 0, 1, 0, 1)), (-1, paint(0, 0, 7, 0, 1)),
    (-2, compare(2, 0)), (-2, compare(0, 201)), (-2, version(3)), (-2, take(0)), (-2, take(1, TOP)), (-2, text(2)),
    (-2, tokens(2, 0)), (-2, tokens(0, 2)), (-2, distance(2)))

HARMLESS_CALLS = (
    counts(), row(), changes(), version(), version(1), version(2, 1), text(0), text(1), tokens(0, 0), tokens(1, 1),
    distance(0), distance(1))


class CallsTest(unittest.TestCase):

    def check_none_held(self, *calls):
        asked = (counts(), row(), changes(), version(), version(1), take(), take(1))
        self.assertEqual(ask(*calls, *asked)[len(calls):], [[-4]] * len(asked), calls)

    def test_none_is_held_at_the_beginning(self):
        self.check_none_held()
        self.check_none_held(*TEXTS)

    def test_none_is_held_after_a_call_that_sets_a_text(self):
        for call in SETTING_CALLS:
            self.check_none_held(*MADE, call)

    def test_none_is_held_after_the_texts_are_exchanged_and_back(self):
        self.check_none_held(*MADE, swap(), swap())
        self.check_none_held(compare(0, 0), swap())
        self.check_none_held(compare(0, 0), copy())

    def test_one_is_held_again_after_compare(self):
        wanted = ask(*MADE, *ASKED)[-len(ASKED):]
        self.assertEqual(ask(*MADE, paint(0, 0, 1, 0, 0), compare(0, 1), *ASKED)[-len(ASKED):], wanted)
        self.assertEqual(ask(*MADE, compare(1, 0), compare(0, 1), *ASKED)[-len(ASKED):], wanted)

    def test_a_refused_call_leaves_everything(self):
        wanted = ask(*MADE, *ASKED)[-len(ASKED):]
        for refusal, call in REFUSED_CALLS:
            self.assertEqual(ask(*MADE, call, *ASKED)[-len(ASKED) - 1:], [[refusal]] + wanted, call)

    def test_a_call_that_only_asks_leaves_everything(self):
        wanted = ask(*MADE, *ASKED)[-len(ASKED):]
        for call in HARMLESS_CALLS:
            self.assertEqual(ask(*MADE, call, *ASKED)[-len(ASKED):], wanted, call)
            self.assertEqual(ask(*MADE, call, call)[-1], ask(*MADE, call)[-1], call)

    def test_a_call_that_only_asks_makes_no_comparison(self):
        for call in (text(0), tokens(1, 1), distance(0), text(2), tokens(0, 2), distance(2), compare(2, 0)):
            self.check_none_held(*TEXTS, call)

    def test_no_comparison_leaves_the_texts(self):
        wanted = ask(*TEXTS, text(0), text(1))[-2:]
        self.assertEqual(ask(*TEXTS, take(), take(1), text(0), text(1))[-2:], wanted)
