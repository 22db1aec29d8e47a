"""Promises 14 and 15: a text told, and its tokens."""

import unittest

from tests.calls import ask, copy, cut, last, letters_of, new, old, paint, put, signs_in, swap, text, tokens

TOP = 10 ** 18
OTHERS = (-1, 2, 3, TOP, -TOP)


class TextTest(unittest.TestCase):

    def test_number_by_number(self):
        calls = [old("ab"), paint(0, 1, 3, 2, 9), new("c"), paint(1, 0, 1, 0, 5), paint(1, 1, 2, 3, 99)]
        self.assertEqual(last(*calls, text(0)), [3, 97, 0, 0, 0, 0, 98, 0, 0, 9, 0, 10, 0, 0, 9, 0])
        self.assertEqual(last(*calls, text(1)), [2, 99, 5, 0, 0, 0, 10, 0, 0, 0, 99])

    def test_new_object(self):
        self.assertEqual(ask(text(0), text(1)), [[1, 10, 0, 0, 0, 0]] * 2)

    def test_other_texts_are_not_there(self):
        for w in OTHERS:
            self.assertEqual(last(old("ab"), text(w)), [-2])

    def test_each_change_of_the_texts(self):
        calls = [old("abc"), copy(), put(1, "x\ny"), cut(0, 1), text(1), text(0), swap(), text(0), text(1)]
        self.assertEqual([signs_in(answer) for answer in ask(*calls) if len(answer) > 1], [
            "x$ybc$", "abc$", "x$ybc$", "abc$"])

    def test_put_letters_are_plain_among_painted_ones(self):
        calls = [new("ab"), paint(1, 0, 3, 1, 5), put(1, "x"), text(1)]
        self.assertEqual(letters_of(last(*calls)), [
            ("a", (0, 5, 0, 0)), ("x", (0, 0, 0, 0)), ("b", (0, 5, 0, 0)), ("\n", (0, 5, 0, 0))])

    def test_full_texts(self):
        self.assertEqual(signs_in(last(new("ab" * 60), text(1))), "ab" * 60 + "$")


class TokensTest(unittest.TestCase):

    def check(self, signs, wanted):
        """Tokens of the signs with grain 1, in both texts."""
        calls = [old(signs), tokens(0, 1), tokens(1, 1), old("x"), new(signs), tokens(1, 1), tokens(0, 1)]
        told = [len(wanted)] + wanted
        self.assertEqual(ask(*calls)[1:3], [told, [0]], signs)
        self.assertEqual(ask(*calls)[5:], [told, [1, 1]], signs)

    def test_grain_0(self):
        for w, call in ((0, old), (1, new)):
            self.assertEqual(last(call("ab 1\n"), tokens(w, 0)), [5, 1, 1, 1, 1, 1])
            self.assertEqual(last(call("a" * 120), tokens(w, 0)), [120] + [1] * 120)

    def test_empty_texts(self):
        self.assertEqual(ask(tokens(0, 0), tokens(0, 1), tokens(1, 0), tokens(1, 1)), [[0]] * 4)

    def test_the_example_of_the_document(self):
        self.check("the cat sat", [3, 1, 3, 1, 3])
        self.check("a cat sat up", [1, 1, 3, 1, 3, 1, 2])

    def test_words_at_the_beginning_and_at_the_end(self):
        self.check("ab", [2])
        self.check("ab ", [2, 1])
        self.check(" ab", [1, 2])
        self.check(" ab c ", [1, 2, 1, 1, 1])
        self.check("a" * 120, [120])

    def test_other_signs_are_tokens_by_themselves(self):
        self.check("  ", [1, 1])
        self.check("...", [1, 1, 1])
        self.check("a--b_c", [1, 1, 1, 1, 1, 1])
        self.check("~" * 120, [1] * 120)

    def test_signs_just_inside_and_just_outside(self):
        for sign in (48, 57, 65, 90, 97, 122):
            self.check([sign, sign], [2])
            self.check([98, sign, 99], [3])
        for sign in (47, 58, 64, 91, 96, 123, 32, 126, 10):
            self.check([sign, sign], [1, 1])
            self.check([98, sign, 99], [1, 1, 1])

    def test_digits_and_alphabetic_signs_go_together(self):
        self.check("a1Z9", [4])
        self.check("1.5kg", [1, 1, 3])

    def test_every_sign(self):
        for sign in [10, *range(32, 127)]:
            self.check([97, sign], [2] if chr(sign).isalnum() else [1, 1])

    def test_a_paragraph_end_among_the_inner_letters(self):
        self.check("ab\ncd\n", [2, 1, 2, 1])
        self.check("\n", [1])

    def test_a_word_with_several_looks_is_one_token(self):
        paints = [paint(1, 0, 1, 0, 5), paint(1, 1, 2, 3, 9), paint(1, 3, 4, 1, 1)]
        self.assertEqual(last(new("abcd e"), *paints, tokens(1, 1)), [3, 4, 1, 1])
        self.assertEqual(last(new("abcd e"), *paints, tokens(1, 0)), [6, 1, 1, 1, 1, 1, 1])

    def test_texts_and_grains_that_are_not_there(self):
        for number in OTHERS:
            self.assertEqual(ask(tokens(number, 0), tokens(number, 1), tokens(0, number), tokens(1, number),
                                 tokens(number, number)), [[-2]] * 5)
