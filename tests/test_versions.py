"""Promises 12 and 13: the version for a set of changes, told and taken."""

import unittest

from tests.calls import ask, changes, compare, counts, distance, last, letters_of, new, old, paint, row, signs_in, swap
from tests.calls import take, text, version

TOP = 10 ** 18
PLAIN = (0, 0, 0, 0)
EXAMPLE = [old("the cat sat"), new("a cat sat up"), compare(1, 0)]


def compared(old_signs, new_signs, least, *paints):
    return [old(old_signs), new(new_signs), *paints, compare(0, least)]


def signs_for(calls, *numbers):
    return signs_in(last(*calls, version(*numbers)))


def looks_for(calls, *numbers):
    return [look for sign, look in letters_of(last(*calls, version(*numbers)))]


class VersionTest(unittest.TestCase):

    def test_example_of_the_document(self):
        wanted = [15]
        for sign in "the cat sat up\n":
            wanted += [ord(sign), 0, 0, 0, 0]
        self.assertEqual(last(*EXAMPLE, version(3)), wanted)

    def test_each_set_of_the_example(self):
        self.assertEqual(signs_for(EXAMPLE), "the cat sat$")
        self.assertEqual(signs_for(EXAMPLE, 1), " cat sat$")
        self.assertEqual(signs_for(EXAMPLE, 2), "thea cat sat$")
        self.assertEqual(signs_for(EXAMPLE, 1, 2), "a cat sat$")
        self.assertEqual(signs_for(EXAMPLE, 1, 3), " cat sat up$")
        self.assertEqual(signs_for(EXAMPLE, 2, 3), "thea cat sat up$")
        self.assertEqual(signs_for(EXAMPLE, 1, 2, 3), "a cat sat up$")

    def test_none_is_the_old_text_and_all_are_the_new_one(self):
        paints = [paint(0, 0, 3, 0, 3), paint(1, 2, 8, 1, 4), paint(0, 6, 7, 2, 5), paint(1, 7, 8, 3, 6)]
        calls = compared("abcdef", "cdefabx", 2, *paints)
        amount = ask(*calls)[-1][0]
        self.assertEqual(last(*calls, version()), last(*calls, text(0)))
        self.assertEqual(last(*calls, version(*range(1, amount + 1))), last(*calls, text(1)))

    def test_no_changes(self):
        self.assertEqual(ask(compare(0, 0), version()), [[0, 0], [1, 10, 0, 0, 0, 0]])
        self.assertEqual(last(compare(0, 0), version(1)), [-2])

    def test_any_order_and_more_than_once(self):
        wanted = last(*EXAMPLE, version(1, 3))
        self.assertEqual(last(*EXAMPLE, version(3, 1)), wanted)
        self.assertEqual(last(*EXAMPLE, version(3, 1, 1, 3, 3)), wanted)
        self.assertEqual(last(*EXAMPLE, version(*[3, 1] * 1000)), wanted)

    def test_numbers_that_are_of_no_change(self):
        for number in (0, -1, -3, 4, 5, TOP, -TOP):
            for numbers in ((number,), (1, number), (number, 1), (1, 2, 3, number)):
                self.assertEqual(last(*EXAMPLE, version(*numbers)), [-2], numbers)
                self.assertEqual(last(*EXAMPLE, take(*numbers)), [-2], numbers)
        self.assertEqual(last(*EXAMPLE, version(*[1] * 1999, 0)), [-2])

    def test_no_comparison_is_looked_at_first(self):
        for numbers in ((), (1,), (0,), (TOP,)):
            self.assertEqual(ask(version(*numbers), take(*numbers)), [[-4], [-4]])

    def test_a_move_whose_cut_stands_first(self):
        calls = compared("abcde", "cdeab", 1)
        self.assertEqual(signs_for(calls), "abcde$")
        self.assertEqual(signs_for(calls, 1), "cdeab$")

    def test_a_move_whose_put_stands_first(self):
        calls = compared("123x456", "x123456y", 1)
        self.assertEqual(signs_for(calls), "123x456$")
        self.assertEqual(signs_for(calls, 1), "x123456$")
        self.assertEqual(signs_for(calls, 2), "123x456y$")

    def test_numbers_behind_a_move(self):
        calls = compared("x123y456", "123x456z", 1)
        self.assertEqual(signs_for(calls, 2), "x123456$")
        self.assertEqual(signs_for(calls, 3), "x123y456z$")
        self.assertEqual(last(*calls, version(4)), [-2])

    def test_one_of_two_paints_at_one_piece(self):
        calls = compared("a", "a", 0, paint(0, 0, 1, 1, 9), paint(1, 0, 1, 0, 5), paint(1, 0, 1, 1, 6))
        self.assertEqual(looks_for(calls), [(0, 9, 0, 0), PLAIN])
        self.assertEqual(looks_for(calls, 1), [(5, 9, 0, 0), PLAIN])
        self.assertEqual(looks_for(calls, 2), [(0, 6, 0, 0), PLAIN])
        self.assertEqual(looks_for(calls, 1, 2), [(5, 6, 0, 0), PLAIN])

    def test_a_paint_over_several_pieces_beside_another(self):
        calls = compared("abc", "abc", 0, paint(1, 0, 2, 0, 5), paint(1, 2, 4, 0, 6), paint(1, 1, 3, 2, 7))
        self.assertEqual(looks_for(calls, 1), [(5, 0, 0, 0), (5, 0, 0, 0), PLAIN, PLAIN])
        self.assertEqual(looks_for(calls, 2), [PLAIN, (0, 0, 7, 0), (0, 0, 7, 0), PLAIN])
        self.assertEqual(looks_for(calls, 3), [PLAIN, PLAIN, (6, 0, 0, 0), (6, 0, 0, 0)])

    def test_a_paint_of_the_value_0(self):
        calls = compared("a", "a", 0, paint(0, 0, 2, 3, 8))
        self.assertEqual(looks_for(calls), [(0, 0, 0, 8)] * 2)
        self.assertEqual(looks_for(calls, 1), [PLAIN] * 2)

    def test_looks_of_put_and_dropped_pieces(self):
        calls = compared("a", "b", 0, paint(0, 0, 1, 0, 3), paint(1, 0, 1, 1, 4))
        self.assertEqual(letters_of(last(*calls, version(2))), [
            ("a", (3, 0, 0, 0)), ("b", (0, 4, 0, 0)), ("\n", PLAIN)])
        self.assertEqual(letters_of(last(*calls, version(1))), [("\n", PLAIN)])

    def test_more_than_120_inner_letters_can_be_told(self):
        calls = compared("a" * 120, "b" * 120, 0)
        self.assertEqual(signs_for(calls, 2), "a" * 120 + "b" * 120 + "$")


class TakeTest(unittest.TestCase):

    def test_answer_counts_the_last_end(self):
        self.assertEqual(last(*EXAMPLE, take()), [12])
        self.assertEqual(last(*EXAMPLE, take(1)), [9])
        self.assertEqual(last(*EXAMPLE, take(3)), [15])
        self.assertEqual(last(*EXAMPLE, take(1, 2, 3)), [13])
        self.assertEqual(last(compare(0, 0), take()), [1])

    def test_the_old_text_is_the_version_then(self):
        for numbers in ((), (1,), (2,), (3,), (1, 2), (3, 1, 3), (1, 2, 3)):
            answers = ask(*EXAMPLE, version(*numbers), take(*numbers), text(0))
            self.assertEqual(answers[-1], answers[-3])
            self.assertEqual(answers[-2], answers[-3][:1])

    def test_looks_and_the_look_of_the_last_end(self):
        paints = [paint(1, 0, 1, 0, 5), paint(1, 1, 3, 2, 7), paint(0, 2, 3, 3, 9)]
        calls = compared("ab", "ab", 0, *paints)
        self.assertEqual(letters_of(last(*calls, take(1), text(0))), [
            ("a", (5, 0, 0, 0)), ("b", PLAIN), ("\n", (0, 0, 0, 9))])
        self.assertEqual(letters_of(last(*calls, take(2), text(0))), [
            ("a", PLAIN), ("b", (0, 0, 7, 0)), ("\n", (0, 0, 7, 9))])
        self.assertEqual(letters_of(last(*calls, take(3), text(0))), [("a", PLAIN), ("b", PLAIN), ("\n", PLAIN)])

    def test_the_new_text_stays(self):
        calls = compared("abcde", "cdeab", 1, paint(1, 0, 6, 1, 3))
        before = last(*calls, text(1))
        for numbers in ((), (1,), (2,), (1, 2)):
            self.assertEqual(last(*calls, take(*numbers), text(1)), before)

    def test_all_taken_is_the_new_text(self):
        calls = compared("abcde", "cdeab", 1, paint(1, 0, 6, 1, 3))
        everything = range(1, ask(*calls)[-1][0] + 1)
        self.assertEqual(ask(*calls, take(*everything), distance(0), compare(0, 1))[-3:], [[6], [0], [0, 0]])

    def test_no_comparison_is_held_then(self):
        for numbers in ((), (1,), (1, 2, 3)):
            calls = [*EXAMPLE, take(*numbers), counts(), row(), changes(), version(), take()]
            self.assertEqual(ask(*calls)[-5:], [[-4]] * 5)

    def test_what_is_left_is_compared_next(self):
        self.assertEqual(ask(*EXAMPLE, take(1), compare(1, 0), take(1), compare(1, 0), take(1), compare(1, 0))[3:], [
            [9], [2, 4], [10], [1, 3], [13], [0, 0]])

    def test_exactly_120_inner_letters_are_taken(self):
        calls = compared("a" * 60, "b" * 60, 0)
        self.assertEqual(ask(*calls, take(2))[-1], [121])
        self.assertEqual(signs_in(last(*calls, take(2), text(0))), "a" * 60 + "b" * 60 + "$")
        self.assertEqual(last(*compared("a" * 120, "", 0), take()), [121])
        self.assertEqual(last(*compared("", "a" * 120, 0), take(1)), [121])
        self.assertEqual(last(*compared("a" * 120, "b" * 120, 0), take(1, 2)), [121])

    def test_one_more_is_refused_and_nothing_changes(self):
        for old_size, new_size in ((60, 61), (61, 60), (120, 1), (1, 120), (120, 120)):
            calls = compared("a" * old_size, "b" * new_size, 0, paint(0, old_size, old_size + 1, 0, 5))
            asked = [text(0), text(1), counts(), row(), changes(), version(2)]
            before = ask(*calls, *asked)[-6:]
            after = ask(*calls, take(2), *asked)[-7:]
            self.assertEqual(after, [[-5]] + before)

    def test_it_can_be_taken_otherwise_after_a_refusal(self):
        calls = compared("a" * 120, "b" * 120, 0)
        self.assertEqual(ask(*calls, take(2), take(1), swap())[-3:], [[-5], [1], [121]])

    def test_order_of_refusals(self):
        full = [old("a" * 120), new("b" * 120)]
        self.assertEqual(ask(*full, take(2, 9), take(2))[-2:], [[-4], [-4]])
        self.assertEqual(ask(*full, compare(0, 0), take(2, 9), take(9, 2), take(2), take(9))[-4:], [
            [-2], [-2], [-5], [-2]])
