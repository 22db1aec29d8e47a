"""Promises 1 to 5 and 7: the texts are set, copied, changed and exchanged.

Two texts are the same letter by letter, looks too, just if their distance is 0.
"""

import unittest

from tests.calls import ask, copy, cut, distance, last, new, old, paint, put, swap

TOP = 10 ** 18
NO_SIGNS = (9, 11, 0, 31, 127, 128, -1, -10, -32, TOP, -TOP)


class SetTest(unittest.TestCase):

    def test_answer_counts_the_last_end(self):
        self.assertEqual(ask(old("abc"), new("ab")), [[4], [3]])

    def test_no_signs(self):
        self.assertEqual(ask(old(""), new("")), [[1], [1]])

    def test_120_signs_and_one_more(self):
        for call in (old, new):
            self.assertEqual(last(call("a" * 120)), [121])
            self.assertEqual(last(call("a" * 121)), [-5])
            self.assertEqual(last(call("a" * 2000)), [-5])

    def test_edges_of_the_signs_are_taken(self):
        for call in (old, new):
            self.assertEqual(last(call([10, 32, 126])), [4])
            self.assertEqual(last(call(range(32, 127))), [96])

    def test_numbers_that_are_no_signs(self):
        for call in (old, new):
            for number in NO_SIGNS:
                self.assertEqual(last(call([number])), [-2], number)
                self.assertEqual(last(call([97, number])), [-2], number)
                self.assertEqual(last(call([number, 97])), [-2], number)

    def test_no_sign_is_looked_at_before_too_many(self):
        for call in (old, new):
            self.assertEqual(last(call([97] * 121 + [9])), [-2])
            self.assertEqual(last(call([9] * 2000)), [-2])

    def test_each_sets_its_own_text(self):
        self.assertEqual(ask(old("ab"), new("ab"), distance(0)), [[3], [3], [0]])
        self.assertEqual(last(old("ab"), distance(0)), [2])
        self.assertEqual(last(new("abc"), distance(0)), [3])
        self.assertEqual(last(old("ab"), new("ac"), old("ac"), distance(0)), [0])

    def test_looks_are_plain_again(self):
        for w, call in ((0, old), (1, new)):
            for k in range(4):
                calls = [call("ab"), paint(w, 0, 3, k, 7), call("ab"), paint(w, 0, 3, k, 0)]
                self.assertEqual(last(*calls), [0])

    def test_paragraph_ends_may_stand_within(self):
        self.assertEqual(ask(old("a\n\nb"), new("a\nb"), distance(0)), [[5], [4], [1]])


class CopyTest(unittest.TestCase):

    def test_signs_and_looks_go_along(self):
        calls = [old("ab"), paint(0, 0, 1, 2, 9), paint(0, 2, 3, 3, 8), new("xyz"), copy()]
        self.assertEqual(ask(*calls)[-1], [3])
        self.assertEqual(last(*calls, distance(0)), [0])
        self.assertEqual(last(*calls, paint(1, 0, 1, 2, 9)), [0])
        self.assertEqual(last(*calls, paint(1, 2, 3, 3, 8)), [0])

    def test_the_two_go_their_own_ways_afterwards(self):
        self.assertEqual(last(old("ab"), copy(), put(0, "x"), paint(1, 0, 4, 0, 1), swap()), [4])
        self.assertEqual(last(old("ab"), copy(), paint(1, 0, 3, 0, 1), paint(0, 0, 3, 0, 1)), [3])
        self.assertEqual(last(old("ab"), copy(), paint(0, 0, 3, 0, 1), paint(1, 0, 3, 0, 1)), [3])

    def test_new_object(self):
        self.assertEqual(ask(copy(), distance(0), distance(1)), [[1], [0], [0]])


class PutTest(unittest.TestCase):

    def test_places(self):
        for p, text in ((0, "xyab"), (1, "axyb"), (2, "abxy")):
            self.assertEqual(ask(old(text), new("ab"), put(p, "xy"), distance(0))[2:], [[5], [0]])

    def test_places_that_are_not_there(self):
        for p in (3, 4, -1, -3, TOP, -TOP):
            self.assertEqual(last(new("ab"), put(p, "x")), [-1])
        self.assertEqual(ask(put(1, "x"), put(0, "x"), put(1, "x")), [[-1], [2], [3]])

    def test_signs_that_are_not_taken(self):
        self.assertEqual(last(put(0, "")), [-2])
        for number in NO_SIGNS:
            self.assertEqual(last(put(0, [97, number])), [-2], number)
        self.assertEqual(last(put(0, [10, 32, 126])), [4])

    def test_exactly_120_and_one_more(self):
        self.assertEqual(last(put(0, "a" * 120)), [121])
        self.assertEqual(last(put(0, "a" * 121)), [-5])
        self.assertEqual(last(new("a" * 100), put(100, "b" * 20)), [121])
        self.assertEqual(last(new("a" * 100), put(100, "b" * 21)), [-5])
        self.assertEqual(last(new("a" * 120), put(120, "b")), [-5])

    def test_order_of_refusals(self):
        full = new("a" * 120)
        self.assertEqual(last(full, put(121, [9])), [-1])
        self.assertEqual(last(full, put(-1, "")), [-1])
        self.assertEqual(last(full, put(121, "b")), [-1])
        self.assertEqual(last(full, put(0, [98, 9])), [-2])
        self.assertEqual(last(full, put(0, "")), [-2])

    def test_looks(self):
        calls = [new("ab"), paint(1, 0, 3, 1, 5), put(1, "x")]
        self.assertEqual(last(*calls, paint(1, 0, 4, 1, 5)), [1])
        self.assertEqual(last(*calls, paint(1, 1, 2, 1, 0)), [0])
        self.assertEqual(last(*calls, paint(1, 3, 4, 1, 5)), [0])

    def test_old_text_stays(self):
        self.assertEqual(last(old("ab"), put(0, "xyz"), swap(), distance(0)), [5])
        self.assertEqual(ask(old("ab"), put(0, "xyz"), swap())[1:], [[4], [4]])


class CutTest(unittest.TestCase):

    def test_places(self):
        for p, q, text in ((0, 1, "bcd"), (1, 3, "ad"), (3, 4, "abc"), (0, 4, "")):
            answers = ask(old(text), new("abcd"), cut(p, q), distance(0))
            self.assertEqual(answers[2:], [[len(text) + 1], [0]])

    def test_places_that_are_not_there(self):
        places = ((0, 0), (2, 2), (4, 4), (2, 1), (0, 5), (4, 5), (3, 5), (-1, 1), (-1, 0), (-2, -1),
                  (0, 6), (5, 6), (-TOP, TOP), (0, TOP), (TOP, TOP))
        for p, q in places:
            self.assertEqual(last(new("abcd"), cut(p, q)), [-1], (p, q))
        self.assertEqual(last(cut(0, 1)), [-1])

    def test_looks_of_the_others_stay(self):
        calls = [new("abcd"), paint(1, 3, 5, 0, 6), cut(1, 3)]
        self.assertEqual(ask(*calls, paint(1, 0, 3, 0, 6), paint(1, 0, 3, 0, 6))[2:], [[3], [1], [0]])
        self.assertEqual(last(*calls, paint(1, 1, 3, 0, 6)), [0])

    def test_old_text_stays(self):
        self.assertEqual(ask(old("ab"), new("ab"), cut(0, 2), swap(), swap())[2:], [[1], [1], [3]])

    def test_room_is_there_again(self):
        self.assertEqual(ask(new("a" * 120), cut(0, 2), put(0, "bc"))[1:], [[119], [121]])


class SwapTest(unittest.TestCase):

    def test_answer_is_for_the_old_text(self):
        self.assertEqual(ask(old("ab"), new("abcd"), swap(), swap())[2:], [[5], [3]])
        self.assertEqual(last(swap()), [1])

    def test_signs_are_exchanged(self):
        self.assertEqual(last(old("ab"), new("cd"), swap(), new("ab"), distance(0)), [4])
        self.assertEqual(last(old("ab"), new("cd"), swap(), old("ab"), distance(0)), [0])

    def test_looks_go_along(self):
        calls = [old("ab"), new("abc"), paint(0, 0, 1, 0, 3), paint(0, 2, 3, 1, 4), paint(1, 3, 4, 2, 5), swap()]
        self.assertEqual(last(*calls, paint(1, 0, 1, 0, 3)), [0])
        self.assertEqual(last(*calls, paint(1, 2, 3, 1, 4)), [0])
        self.assertEqual(last(*calls, paint(0, 3, 4, 2, 5)), [0])
        self.assertEqual(last(*calls, paint(0, 0, 4, 0, 3)), [4])
