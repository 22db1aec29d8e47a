"""The row of pieces and the changes that a comparison holds."""

import unittest

from tests.calls import signs_of
from trackmarks.desk import Desk

KEPT, DROPPED, PUT = 0, 1, 2
PUT_KIND, CUT_KIND, PAINT_KIND, MOVE_KIND = 1, 2, 3, 4
PLAIN = (0, 0, 0, 0)


def desk_with(old_text, new_text, *paints):
    desk = Desk()
    desk.set_old(signs_of(old_text))
    desk.set_new(signs_of(new_text))
    for w, p, q, k, v in paints:
        desk.paint_letters(w, p, q, k, v)
    return desk


def held(old_text, new_text, grain, least, *paints):
    desk = desk_with(old_text, new_text, *paints)
    desk.compare_texts(grain, least)
    return desk.comparison


def shown(comparison):
    """The row as a text: - before a dropped sign, + before one that is put, $ for a paragraph's end."""
    marks = {KEPT: "", DROPPED: "-", PUT: "+"}
    return "".join([marks[piece.fate] + chr(piece.letter[0]) for piece in comparison.row]).replace("\n", "$")


def told(comparison):
    """Each change: its kind, and the places of its put, dropped and painted pieces."""
    return [(change.kind, change.put_places, change.dropped_places, change.painted_places)
            for change in comparison.changes]


class ScriptChosenTest(unittest.TestCase):

    def check(self, old_text, new_text, grain, wanted):
        self.assertEqual(shown(held(old_text, new_text, grain, 0)), wanted)

    def test_examples_of_the_document(self):
        self.check("ab", "ba", 0, "-ab+a$")
        self.check("the cat sat", "a cat sat up", 1, "-t-h-e+a cat sat+ +u+p$")

    def test_keep_comes_before_drop_and_put(self):
        self.check("aa", "a", 0, "a-a$")
        self.check("a", "aa", 0, "a+a$")
        self.check("ab ab", "ab", 1, "ab- -a-b$")

    def test_drop_comes_before_put(self):
        self.check("a", "b", 0, "-a+b$")
        self.check("abx", "cdx", 0, "-a-b+c+dx$")
        self.check("abc", "cba", 0, "-a-bc+b+a$")

    def test_put_where_a_drop_costs_more(self):
        self.check("bc", "abc", 0, "+abc$")
        self.check("ab", "bab", 0, "+bab$")

    def test_what_is_left_to_pay_decides(self):
        self.check("abcab", "cabab", 0, "+cab-cab$")
        self.check("abcd", "cdab", 0, "-a-bcd+a+b$")
        self.check("long a", "a long", 1, "+a+ long- -a$")

    def test_a_keep_that_only_ties_is_taken(self):
        two = [(1, 0, 1, 0, 5), (1, 0, 1, 1, 5)]
        self.assertEqual(shown(held("a", "a", 0, 0, *two)), "a$")
        self.assertEqual(shown(held("a", "a", 0, 0, *two, (1, 0, 1, 2, 5))), "-a+a$")

    def test_a_drop_that_ties_with_a_put_and_a_keep_is_taken(self):
        three_and_two = [(1, 0, 2, 0, 5), (1, 0, 2, 1, 5), (1, 0, 1, 2, 5)]
        self.assertEqual(shown(held("bc", "bc", 0, 0, *three_and_two)), "-b-c+b+c$")

    def test_looks_decide_which_one_is_kept(self):
        self.assertEqual(shown(held("aa", "a", 0, 0, (0, 1, 2, 0, 5), (1, 0, 1, 0, 5))), "-aa$")

    def test_a_paragraph_end_within_may_be_dropped_and_the_last_end_not(self):
        self.check("a\n", "a", 0, "a-$$")
        self.check("", "\n", 1, "+$$")


class PieceTest(unittest.TestCase):

    def test_kept_pieces_have_the_old_look_and_entries_with_the_new_values(self):
        paints = [(0, 0, 1, 0, 3), (0, 0, 1, 1, 4), (1, 0, 1, 3, 6), (1, 0, 1, 1, 4), (1, 0, 1, 0, 0)]
        piece = held("a", "a", 0, 0, *paints).row[0]
        self.assertEqual((piece.fate, piece.letter, piece.entries), (KEPT, (97, (3, 4, 0, 0)), [(0, 0), (3, 6)]))

    def test_dropped_and_put_pieces_have_their_own_looks_and_no_entries(self):
        row = held("a", "b", 0, 0, (0, 0, 1, 0, 3), (1, 0, 1, 1, 4)).row
        self.assertEqual([(piece.fate, piece.letter, piece.entries) for piece in row], [
            (DROPPED, (97, (3, 0, 0, 0)), []), (PUT, (98, (0, 4, 0, 0)), []), (KEPT, (10, PLAIN), [])])

    def test_the_last_end_has_entries(self):
        paints = [(0, 1, 2, 2, 9), (1, 1, 2, 0, 8)]
        piece = held("a", "a", 0, 0, *paints).row[-1]
        self.assertEqual((piece.fate, piece.letter, piece.entries), (KEPT, (10, (0, 0, 9, 0)), [(0, 8), (2, 0)]))


class NumberingTest(unittest.TestCase):

    def test_example_of_the_document(self):
        self.assertEqual(told(held("the cat sat", "a cat sat up", 1, 0)), [
            (CUT_KIND, [], [0, 1, 2], []), (PUT_KIND, [3], [], []), (PUT_KIND, [12, 13, 14], [], [])])

    def test_by_the_first_piece(self):
        comparison = held("axbc", "abyc", 0, 0, (1, 3, 5, 0, 5), (1, 0, 1, 3, 6))
        self.assertEqual(shown(comparison), "a-xb+yc$")
        self.assertEqual(told(comparison), [
            (PAINT_KIND, [], [], [0]), (CUT_KIND, [], [1], []), (PUT_KIND, [3], [], []), (PAINT_KIND, [], [], [4, 5])])

    def test_paints_that_begin_at_one_piece_by_their_properties(self):
        paints = [(1, 0, 2, 3, 1), (1, 0, 1, 0, 9), (1, 1, 3, 1, 5)]
        comparison = held("abc", "abc", 0, 0, *paints)
        self.assertEqual(told(comparison), [
            (PAINT_KIND, [], [], [0]), (PAINT_KIND, [], [], [0, 1]), (PAINT_KIND, [], [], [1, 2])])
        self.assertEqual([change.painted_property for change in comparison.changes], [0, 3, 1])

    def test_paints_of_one_property_with_other_values(self):
        comparison = held("abc", "abc", 0, 0, (1, 0, 2, 2, 7), (1, 2, 4, 2, 1))
        self.assertEqual(told(comparison), [(PAINT_KIND, [], [], [0, 1]), (PAINT_KIND, [], [], [2, 3])])


class MoveTest(unittest.TestCase):

    def test_it_has_the_pieces_of_the_cut_and_of_the_put(self):
        self.assertEqual(told(held("abcde", "cdeab", 0, 1)), [(MOVE_KIND, [5, 6], [0, 1], [])])

    def test_it_is_numbered_by_its_first_piece_be_it_put_or_dropped(self):
        comparison = held("123x456y", "x1234567", 0, 1)
        self.assertEqual(shown(comparison), "+x123-x456-y+7$")
        self.assertEqual(told(comparison), [
            (MOVE_KIND, [0], [4], []), (CUT_KIND, [], [8], []), (PUT_KIND, [9], [], [])])

    def test_the_first_like_put_is_taken(self):
        comparison = held("x123456", "123x456x", 0, 1)
        self.assertEqual(shown(comparison), "-x123+x456+x$")
        self.assertEqual(told(comparison), [(MOVE_KIND, [4], [0], []), (PUT_KIND, [8], [], [])])

    def test_a_put_that_stands_before_the_cut_is_taken_first(self):
        comparison = held("123x456", "x123456x", 0, 1)
        self.assertEqual(shown(comparison), "+x123-x456+x$")
        self.assertEqual(told(comparison), [(MOVE_KIND, [0], [4], []), (PUT_KIND, [8], [], [])])

    def test_the_first_like_cut_takes_the_put(self):
        comparison = held("123x456x789", "x123456789", 0, 1)
        self.assertEqual(shown(comparison), "+x123-x456-x789$")
        self.assertEqual(told(comparison), [(MOVE_KIND, [0], [4], []), (CUT_KIND, [], [8], [])])

    def test_a_put_is_in_one_move_alone(self):
        comparison = held("x12x345", "12345x67x", 0, 1)
        self.assertEqual(shown(comparison), "-x12-x345+x+6+7+x$")
        self.assertEqual(len(comparison.changes), 3)
        comparison = held("x123x456789", "123456x789x", 0, 1)
        self.assertEqual(shown(comparison), "-x123-x456+x789+x$")
        self.assertEqual(told(comparison), [(MOVE_KIND, [8], [0], []), (MOVE_KIND, [12], [4], [])])

    def test_a_short_cut_leaves_its_put_to_a_later_one(self):
        comparison = held("x123yz456", "123x456yz", 0, 2)
        self.assertEqual(shown(comparison), "-x123-y-z+x456+y+z$")
        self.assertEqual([change.kind for change in comparison.changes], [CUT_KIND, MOVE_KIND, PUT_KIND])

    def test_no_moves_with_least_0(self):
        self.assertEqual(told(held("abcde", "cdeab", 0, 0)), [(CUT_KIND, [], [0, 1], []), (PUT_KIND, [5, 6], [], [])])
