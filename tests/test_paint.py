"""Promise 6: the letters of a text are given a value in a property."""

import unittest

from tests.calls import ask, copy, distance, last, new, old, paint

TOP = 10 ** 18
TEXTS = [old("abc"), new("abcde")]


class PaintTest(unittest.TestCase):

    def test_answer_counts_the_letters_that_had_another_value(self):
        calls = [paint(0, 0, 4, 1, 5), paint(0, 0, 4, 1, 5), paint(0, 1, 2, 1, 6), paint(0, 0, 4, 1, 6)]
        self.assertEqual(ask(*TEXTS, *calls)[2:], [[4], [0], [1], [3]])
        self.assertEqual(last(*TEXTS, paint(0, 0, 4, 1, 0)), [0])

    def test_each_text_has_its_own_length(self):
        self.assertEqual(last(*TEXTS, paint(0, 0, 4, 0, 1)), [4])
        self.assertEqual(last(*TEXTS, paint(0, 0, 5, 0, 1)), [-1])
        self.assertEqual(last(*TEXTS, paint(1, 0, 6, 0, 1)), [6])
        self.assertEqual(last(*TEXTS, paint(1, 0, 7, 0, 1)), [-1])

    def test_the_last_end_alone(self):
        self.assertEqual(ask(*TEXTS, paint(0, 3, 4, 3, 99), paint(0, 0, 4, 3, 99))[2:], [[1], [3]])
        self.assertEqual(ask(paint(0, 0, 1, 0, 1), paint(1, 0, 1, 0, 1), distance(0)), [[1], [1], [0]])

    def test_just_the_letters_from_p_to_q(self):
        calls = [paint(1, 2, 4, 0, 9), paint(1, 0, 2, 0, 9), paint(1, 4, 6, 0, 9), paint(1, 2, 4, 0, 9)]
        self.assertEqual(ask(*TEXTS, *calls)[2:], [[2], [2], [2], [0]])

    def test_the_other_text_stays(self):
        for w in (0, 1):
            calls = [paint(w, 0, 4, 2, 8), paint(1 - w, 0, 4, 2, 8)]
            self.assertEqual(ask(*TEXTS, *calls)[2:], [[4], [4]])

    def test_the_other_properties_stay(self):
        for k in range(4):
            calls = [paint(0, 0, 4, prop, 10 + prop) for prop in range(4)]
            calls.append(paint(0, 0, 4, k, 50))
            calls.extend([paint(0, 0, 4, prop, 10 + prop) for prop in range(4)])
            wanted = [[4] if prop == k else [0] for prop in range(4)]
            self.assertEqual(ask(*TEXTS, *calls)[-4:], wanted)

    def test_signs_stay(self):
        self.assertEqual(last(old("abc"), copy(), paint(1, 0, 4, 0, 7), paint(0, 0, 4, 0, 7), distance(0)), [0])

    def test_values_at_the_edges(self):
        for v in (1, 99):
            self.assertEqual(last(*TEXTS, paint(1, 0, 1, 0, v)), [1])
        for v in (-1, 100, TOP, -TOP):
            self.assertEqual(last(*TEXTS, paint(1, 0, 1, 0, v)), [-2])

    def test_texts_and_properties_that_are_not_there(self):
        for w in (-1, 2, TOP, -TOP):
            self.assertEqual(last(*TEXTS, paint(w, 0, 1, 0, 1)), [-2])
        for k in (-1, 4, TOP, -TOP):
            self.assertEqual(last(*TEXTS, paint(0, 0, 1, k, 1)), [-2])

    def test_places_that_are_not_there(self):
        places = ((0, 0), (4, 4), (2, 1), (-1, 2), (-2, -1), (3, 5), (4, 5), (0, TOP), (-TOP, 0), (TOP, TOP))
        for p, q in places:
            self.assertEqual(last(*TEXTS, paint(0, p, q, 0, 1)), [-1], (p, q))

    def test_order_of_refusals(self):
        for w, k, v in ((2, 0, 0), (0, 4, 0), (0, 0, 100), (-1, -1, -1)):
            self.assertEqual(last(*TEXTS, paint(w, 5, 5, k, v)), [-2])
