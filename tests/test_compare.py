"""Promises 8 and 16: how many changes, and the cost."""

import unittest

from tests.calls import ask, compare, copy, cut, distance, last, new, old, paint, put, swap

TOP = 10 ** 18


def compared(old_text, new_text, grain, least, *paints):
    """The answers of compare and distance, and a check that they tell one cost."""
    answers = ask(old(old_text), new(new_text), *paints, compare(grain, least), distance(grain))
    assert answers[-2][1:] == answers[-1]
    return answers[-2]


class RefusalTest(unittest.TestCase):

    def test_grains(self):
        for grain in (-1, 2, TOP, -TOP):
            self.assertEqual(ask(compare(grain, 0), distance(grain)), [[-2], [-2]])

    def test_least_lengths(self):
        for least in (-1, 201, TOP, -TOP):
            self.assertEqual(ask(compare(0, least), compare(1, least)), [[-2], [-2]])
        for least in (0, 1, 199, 200):
            self.assertEqual(ask(compare(0, least), compare(1, least)), [[0, 0], [0, 0]])


class CostTest(unittest.TestCase):

    def test_examples_of_the_document(self):
        self.assertEqual(compared("ab", "ba", 0, 0), [2, 2])
        self.assertEqual(compared("the cat sat", "a cat sat up", 1, 0), [3, 7])

    def test_new_object(self):
        self.assertEqual(ask(compare(0, 0), compare(1, 1), distance(0), distance(1)), [[0, 0], [0, 0], [0], [0]])

    def test_all_cut_and_all_put(self):
        self.assertEqual(compared("abc d", "", 0, 0), [1, 5])
        self.assertEqual(compared("", "abc d", 1, 0), [1, 5])
        self.assertEqual(compared("abc", "xy", 1, 0), [2, 5])
        self.assertEqual(compared("a" * 120, "b" * 120, 0, 0), [2, 240])

    def test_the_grains_differ_in_what_may_be_kept(self):
        self.assertEqual(compared("cat", "cart", 0, 0), [1, 1])
        self.assertEqual(compared("cat", "cart", 1, 0), [2, 7])

    def test_words_are_of_digits_and_alphabetic_signs(self):
        for pair in ("aZ", "zA", "09", "a0", "Z9", "9z"):
            self.assertEqual(compared(pair, pair[0], 1, 0), [2, 3], pair)
        for sign in "/:@[`{ -_~\n":
            self.assertEqual(compared("a" + sign, "a", 1, 0), [1, 1], sign)
            self.assertEqual(compared("b" + sign + "c", "b", 1, 0), [1, 2], sign)
            self.assertEqual(compared(sign * 2, sign, 1, 0), [1, 1], sign)

    def test_a_word_is_one_whatever_its_looks(self):
        paints = [paint(0, 0, 1, 0, 1), paint(1, 1, 2, 0, 1)]
        self.assertEqual(compared("abc", "abc", 1, 0, *paints), [2, 2])

    def test_cost_of_looks(self):
        for grain in (0, 1):
            paints = []
            for k in range(4):
                paints.append(paint(1, 0, 3, k, 5))
                wanted = 3 * min(k + 1, 2) if grain == 0 else min(3 * (k + 1), 6)
                self.assertEqual(compared("abc", "abc", grain, 0, *paints)[1], wanted)

    def test_a_keep_for_the_price_of_a_drop_and_a_put_is_chosen(self):
        two = [paint(1, 0, 1, 0, 5), paint(1, 0, 1, 1, 5)]
        self.assertEqual(compared("a", "a", 0, 0, *two), [2, 2])
        three = two + [paint(1, 0, 1, 3, 5)]
        self.assertEqual(compared("a", "a", 0, 0, *three), [2, 2])
        self.assertEqual(compared("a", "a", 0, 1, *three), [2, 2])

    def test_last_ends_are_kept_whatever_they_cost(self):
        paints = [paint(0, 0, 1, k, 7) for k in range(4)]
        for amount in range(5):
            self.assertEqual(compared("", "", 0, 0, *paints[:amount]), [amount, amount])
        self.assertEqual(compared("", "a", 1, 1, *paints), [5, 5])

    def test_the_texts_are_taken_as_they_are_now(self):
        self.assertEqual(ask(old("ab"), new("b"), put(1, "a"), paint(1, 1, 2, 0, 3), compare(0, 1))[-1], [2, 2])
        self.assertEqual(ask(old("aab"), new("b"), swap(), compare(0, 0))[-2:], [[2], [1, 2]])


class ChangeCountTest(unittest.TestCase):

    def test_paints_side_by_side(self):
        same = [paint(1, 0, 2, 0, 5), paint(1, 2, 4, 0, 5)]
        self.assertEqual(compared("abcd", "abcd", 0, 0, *same), [1, 4])
        other_values = [paint(1, 0, 2, 0, 5), paint(1, 2, 4, 0, 6)]
        self.assertEqual(compared("abcd", "abcd", 0, 0, *other_values), [2, 4])
        other_properties = [paint(1, 0, 2, 0, 5), paint(1, 2, 4, 1, 5)]
        self.assertEqual(compared("abcd", "abcd", 0, 0, *other_properties), [2, 4])

    def test_paints_of_the_same_new_value_over_other_old_values(self):
        paints = [paint(0, 0, 1, 0, 3), paint(0, 1, 2, 0, 4), paint(1, 0, 3, 0, 5)]
        self.assertEqual(compared("ab", "ab", 0, 0, *paints), [1, 3])

    def test_paints_of_the_value_zero(self):
        self.assertEqual(compared("ab", "ab", 0, 0, paint(0, 0, 3, 2, 9)), [1, 3])

    def test_a_paint_is_broken_by_what_stands_between(self):
        painted = [paint(1, 0, 5, 0, 5)]
        self.assertEqual(compared("abcd", "abcd", 0, 0, *painted), [1, 5])
        self.assertEqual(compared("abxcd", "abcd", 0, 0, *painted), [3, 6])
        unpainted = [paint(1, 0, 2, 0, 5), paint(1, 3, 5, 0, 5)]
        self.assertEqual(compared("abcd", "abcd", 0, 0, *unpainted), [2, 4])

    def test_a_paint_goes_on_over_tokens_and_the_last_end(self):
        self.assertEqual(compared("ab cd", "ab cd", 1, 0, paint(1, 1, 6, 3, 2)), [1, 5])

    def test_a_cut_goes_on_over_tokens(self):
        self.assertEqual(compared("ab cd", "", 1, 0), [1, 5])
        self.assertEqual(compared("axbxc", "abc", 0, 0), [2, 2])


class MoveTest(unittest.TestCase):

    def test_least_length(self):
        self.assertEqual(compared("abcde", "cdeab", 0, 0), [2, 4])
        for least in (1, 2):
            self.assertEqual(compared("abcde", "cdeab", 0, least), [1, 4])
        for least in (3, 120, 200):
            self.assertEqual(compared("abcde", "cdeab", 0, least), [2, 4])

    def test_looks_must_be_the_same(self):
        put_painted = paint(1, 3, 4, 0, 5)
        self.assertEqual(compared("abcde", "cdeab", 0, 1, put_painted), [2, 4])
        both_painted = [put_painted, paint(0, 0, 1, 0, 5)]
        self.assertEqual(compared("abcde", "cdeab", 0, 1, *both_painted), [1, 4])

    def test_the_order_must_be_the_same(self):
        self.assertEqual(compared("abcde", "cdeba", 0, 1)[0], 2)

    def test_a_part_is_no_move(self):
        self.assertEqual(compared("abcde", "cdea", 0, 1), [2, 3])
        self.assertEqual(compared("acde", "cdeab", 0, 1), [2, 3])

    def test_two_like_puts_for_one_cut(self):
        self.assertEqual(compared("x123456", "123x456x", 0, 0), [3, 3])
        self.assertEqual(compared("x123456", "123x456x", 0, 1), [2, 3])

    def test_two_like_cuts_for_one_put(self):
        self.assertEqual(compared("123x456x789", "x123456789", 0, 0), [3, 3])
        self.assertEqual(compared("123x456x789", "x123456789", 0, 1), [2, 3])

    def test_two_moves(self):
        self.assertEqual(compared("x12y34", "12x34y", 0, 1), [2, 4])


class DistanceTest(unittest.TestCase):

    def test_both_grains(self):
        self.assertEqual(ask(old("cat"), new("cart"), distance(0), distance(1))[2:], [[1], [7]])

    def test_after_each_change_of_a_text(self):
        calls = [old("abc"), distance(0), copy(), distance(0), put(1, "xy"), distance(0), cut(0, 1), distance(0),
                 paint(1, 0, 1, 0, 1), distance(0), paint(1, 4, 5, 0, 1), distance(0)]
        self.assertEqual(ask(*calls)[1::2], [[3], [0], [2], [3], [3], [4]])

    def test_it_is_the_same_both_ways(self):
        calls = [old("the cat"), new("a cart"), paint(1, 1, 5, 2, 2), distance(0), swap(), distance(0)]
        answers = ask(*calls)
        self.assertEqual(answers[3], answers[5])
        self.assertEqual(last(old("the cat"), new("a cart"), distance(1)), [11])
