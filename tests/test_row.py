"""Promises 9, 10 and 11: counts, row and changes."""

import unittest

from tests.calls import changes, compare, counts, last, new, old, paint, pieces_of, row

EXAMPLE = [old("the cat sat"), new("a cat sat up"), compare(1, 0)]
PLAIN = (0, 0, 0, 0)


def compared(old_signs, new_signs, least, *paints):
    return [old(old_signs), new(new_signs), *paints, compare(0, least)]


def marks(*calls):
    """The row with - before a dropped sign, + before one that is put, and the change's number behind it."""
    told = ""
    for sign, look, put_number, dropped_number, entries in pieces_of(last(*calls, row())):
        told += f"+{sign}{put_number}" if put_number else f"-{sign}{dropped_number}" if dropped_number else sign
    return told.replace("\n", "$")


def entries(*calls):
    """The entries of each piece of the row, each its change's number, its property, its value."""
    return [piece[4] for piece in pieces_of(last(*calls, row()))]


class CountsTest(unittest.TestCase):

    def test_example_of_the_document(self):
        self.assertEqual(last(*EXAMPLE, counts()), [9, 3, 4, 0])

    def test_the_last_end_is_kept(self):
        self.assertEqual(last(compare(0, 0), counts()), [1, 0, 0, 0])
        self.assertEqual(last(*compared("abc", "", 0), counts()), [1, 3, 0, 0])
        self.assertEqual(last(*compared("", "ab", 0), counts()), [1, 0, 2, 0])

    def test_entries_are_counted_one_by_one(self):
        paints = [paint(1, 0, 2, 0, 5), paint(1, 1, 2, 3, 5)]
        self.assertEqual(last(*compared("abc", "abc", 0, *paints), counts()), [4, 0, 0, 3])

    def test_entries_of_the_last_end_are_counted(self):
        paints = [paint(0, 0, 1, k, 7) for k in range(4)]
        self.assertEqual(last(*compared("", "", 0, *paints), counts()), [1, 0, 0, 4])
        self.assertEqual(last(*compared("ab", "ab", 0, paint(1, 0, 3, 1, 2)), counts()), [3, 0, 0, 3])

    def test_pieces_of_a_move_are_dropped_and_put(self):
        self.assertEqual(last(*compared("abcde", "cdeab", 1), counts()), [4, 2, 2, 0])

    def test_a_paragraph_end_within(self):
        self.assertEqual(last(*compared("a\n\nb", "a\nb", 0), counts()), [4, 1, 0, 0])


class RowTest(unittest.TestCase):

    def test_example_of_the_document_number_by_number(self):
        self.assertEqual(last(*EXAMPLE, row()), [
            16,
            116, 0, 0, 0, 0, 0, 1, 0,
            104, 0, 0, 0, 0, 0, 1, 0,
            101, 0, 0, 0, 0, 0, 1, 0,
            97, 0, 0, 0, 0, 2, 0, 0,
            32, 0, 0, 0, 0, 0, 0, 0,
            99, 0, 0, 0, 0, 0, 0, 0,
            97, 0, 0, 0, 0, 0, 0, 0,
            116, 0, 0, 0, 0, 0, 0, 0,
            32, 0, 0, 0, 0, 0, 0, 0,
            115, 0, 0, 0, 0, 0, 0, 0,
            97, 0, 0, 0, 0, 0, 0, 0,
            116, 0, 0, 0, 0, 0, 0, 0,
            32, 0, 0, 0, 0, 3, 0, 0,
            117, 0, 0, 0, 0, 3, 0, 0,
            112, 0, 0, 0, 0, 3, 0, 0,
            10, 0, 0, 0, 0, 0, 0, 0])

    def test_new_object(self):
        self.assertEqual(last(compare(1, 1), row()), [1, 10, 0, 0, 0, 0, 0, 0, 0])

    def test_looks_and_entries_number_by_number(self):
        paints = [paint(0, 0, 1, 2, 9), paint(1, 0, 1, 0, 8), paint(1, 1, 2, 3, 7), paint(1, 2, 3, 1, 6)]
        self.assertEqual(last(*compared("ax", "ay", 0, *paints), row()), [
            4,
            97, 0, 0, 9, 0, 0, 0, 2, 1, 0, 8, 2, 2, 0,
            120, 0, 0, 0, 0, 0, 3, 0,
            121, 0, 0, 0, 7, 4, 0, 0,
            10, 0, 0, 0, 0, 0, 0, 1, 5, 1, 6])

    def test_several_entries_each_with_the_number_of_its_own_change(self):
        paints = [paint(1, 1, 3, 0, 5), paint(1, 0, 3, 3, 6)]
        self.assertEqual(entries(*compared("abcd", "abcd", 0, *paints)), [
            [(1, 3, 6)], [(2, 0, 5), (1, 3, 6)], [(2, 0, 5), (1, 3, 6)], [], []])

    def test_four_entries_at_the_last_end(self):
        paints = [paint(1, 0, 1, k, 10 + k) for k in (2, 0, 3, 1)]
        self.assertEqual(entries(*compared("", "", 0, *paints)), [[(1, 0, 10), (2, 1, 11), (3, 2, 12), (4, 3, 13)]])

    def test_neighbours_with_the_same_value_share_a_paint(self):
        paints = [paint(1, 0, 1, 0, 5), paint(1, 1, 3, 0, 5)]
        self.assertEqual(entries(*compared("ab", "ab", 0, *paints)), [[(1, 0, 5)], [(1, 0, 5)], [(1, 0, 5)]])

    def test_neighbours_with_other_values_have_their_own_paints(self):
        paints = [paint(1, 0, 2, 0, 5), paint(1, 2, 4, 0, 6)]
        self.assertEqual(entries(*compared("abc", "abc", 0, *paints)), [
            [(1, 0, 5)], [(1, 0, 5)], [(2, 0, 6)], [(2, 0, 6)]])

    def test_the_same_value_again_further_on_is_another_paint(self):
        paints = [paint(1, 0, 3, 0, 5), paint(1, 1, 2, 0, 6)]
        self.assertEqual(entries(*compared("ab", "ab", 0, *paints)), [[(1, 0, 5)], [(2, 0, 6)], [(3, 0, 5)]])

    def test_a_move_whose_cut_stands_first(self):
        self.assertEqual(marks(*compared("abcde", "cdeab", 1)), "-a1-b1cde+a1+b1$")

    def test_a_move_whose_put_stands_first(self):
        self.assertEqual(marks(*compared("123x456", "x123456", 1)), "+x1123-x1456$")

    def test_numbers_behind_a_move_close_up(self):
        self.assertEqual(marks(*compared("x12y34", "12z34x5", 0)), "-x112-y2+z334+x4+54$")
        self.assertEqual(marks(*compared("x12y345", "12z34x5", 0)), "-x112-y2+z334+x45$")
        self.assertEqual(marks(*compared("x12y345", "12z34x5", 1)), "-x112-y2+z334+x15$")
        self.assertEqual(marks(*compared("x123y456", "123x456z", 0)), "-x1123-y2+x3456+z4$")
        self.assertEqual(marks(*compared("x123y456", "123x456z", 1)), "-x1123-y2+x1456+z3$")

    def test_numbers_of_paints_behind_a_move_close_up(self):
        last_end = paint(1, 5, 6, 2, 3)
        self.assertEqual(entries(*compared("abcde", "cdeab", 0, last_end))[-1], [(3, 2, 3)])
        self.assertEqual(entries(*compared("abcde", "cdeab", 1, last_end))[-1], [(2, 2, 3)])

    def test_a_paragraph_end_within_may_be_dropped_or_put(self):
        self.assertEqual(marks(*compared("a\n", "a", 0)), "a-$1$")
        self.assertEqual(marks(*compared("", "\n", 0)), "+$1$")

    def test_it_has_all_pieces_of_full_texts(self):
        pieces = pieces_of(last(*compared("a" * 120, "b" * 120, 1), row()))
        self.assertEqual(pieces, [("a", PLAIN, 0, 1, [])] * 120 + [("b", PLAIN, 2, 0, [])] * 120
                         + [("\n", PLAIN, 0, 0, [])])


class ChangesTest(unittest.TestCase):

    def test_example_of_the_document(self):
        self.assertEqual(last(*EXAMPLE, changes()), [3, 2, 0, 3, 0, 1, 1, 0, 0, 1, 3, 0, 0])

    def test_no_changes(self):
        self.assertEqual(last(compare(0, 0), changes()), [0])

    def test_each_kind(self):
        self.assertEqual(last(*compared("a", "abc", 1), changes()), [1, 1, 2, 0, 0])
        self.assertEqual(last(*compared("abc", "a", 1), changes()), [1, 2, 0, 2, 0])
        self.assertEqual(last(*compared("abc", "abc", 1, paint(1, 1, 4, 0, 5)), changes()), [1, 3, 0, 0, 3])
        self.assertEqual(last(*compared("abcde", "cdeab", 1), changes()), [1, 4, 2, 2, 0])

    def test_by_their_numbers(self):
        paints = [paint(1, 0, 1, 1, 4), paint(1, 7, 9, 0, 5)]
        self.assertEqual(last(*compared("ax12345b", "a12345xyb", 1, *paints), changes()), [
            4, 3, 0, 0, 1, 2, 0, 1, 0, 1, 2, 0, 0, 3, 0, 0, 1])
        self.assertEqual(last(*compared("ax12345b", "a12345xb", 1, paint(1, 0, 1, 1, 4), paint(1, 7, 9, 0, 5)),
                              changes()), [3, 3, 0, 0, 1, 4, 1, 1, 0, 3, 0, 0, 2])

    def test_a_paint_counts_its_own_entries_alone(self):
        paints = [paint(1, 1, 3, 0, 5), paint(1, 0, 3, 3, 6)]
        self.assertEqual(last(*compared("abcd", "abcd", 0, *paints), changes()), [2, 3, 0, 0, 3, 3, 0, 0, 2])

    def test_least_0_makes_no_move(self):
        self.assertEqual(last(*compared("abcde", "cdeab", 0), changes()), [2, 2, 0, 2, 0, 1, 2, 0, 0])
