"""Comparisons of many small texts, held against the document's words."""

import itertools
import random
import unittest

from tests import by_the_words
from trackmarks.desk import Desk

FATES = ("keep", "drop", "put")
LAST_END = (10, (0, 0, 0, 0))


def plain(signs):
    return [(ord(sign), (0, 0, 0, 0)) for sign in signs] + [LAST_END]


def told(desk):
    comparison = desk.comparison
    row = [(FATES[piece.fate], piece.letter, piece.entries) for piece in comparison.row]
    changes = [(change.kind, change.put_places, change.dropped_places, change.painted_places, change.painted_property)
               for change in comparison.changes]
    return row, changes


class ByTheWordsTest(unittest.TestCase):

    def setUp(self):
        self.sets = random.Random(22)

    def check(self, old_text, new_text, grain, least):
        desk = Desk()
        desk.old_text = old_text
        desk.new_text = new_text
        row, cost = by_the_words.pieces(old_text, new_text, grain)
        changes = by_the_words.changes(row, least)
        story = (old_text, new_text, grain, least)
        self.assertEqual(desk.compare_texts(grain, least), [len(changes), cost], story)
        self.assertEqual(desk.distance(grain), [cost], story)
        self.assertEqual(told(desk), (row, changes), story)
        self.assertEqual(desk.tell_row(), by_the_words.told_row(row, changes), story)
        self.assertEqual(desk.tell_changes(), by_the_words.told_changes(changes), story)
        self.assertEqual(desk.tell_counts(), by_the_words.told_counts(row), story)
        self.assertEqual(desk.tell_text(0), by_the_words.told_text(old_text), story)
        self.assertEqual(desk.tell_text(1), by_the_words.told_text(new_text), story)
        self.check_tokens(desk, grain)
        self.check_versions(desk, row, changes)

    def check_tokens(self, desk, grain):
        for w, text in enumerate((desk.old_text, desk.new_text)):
            sizes = [len(token) for token in by_the_words.tokens(text, grain)]
            self.assertEqual(desk.tell_tokens(w, grain), [len(sizes)] + sizes)

    def check_versions(self, desk, row, changes):
        every = list(range(1, len(changes) + 1))
        some = [number for number in every if self.sets.random() < 0.5]
        self.assertEqual(desk.tell_version([]), desk.tell_text(0))
        self.assertEqual(desk.tell_version(every), desk.tell_text(1))
        self.assertEqual(desk.tell_version([len(changes) + 1]), [-2])
        self.sets.shuffle(some)
        version = by_the_words.version(row, changes, some)
        self.assertEqual(desk.tell_version(some + some[:1]), by_the_words.told_text(version))
        self.assertEqual(desk.take_version(some), [len(version)])
        self.assertEqual(desk.old_text, version)
        self.assertIsNone(desk.comparison)

    def test_all_short_plain_texts(self):
        texts = ["".join(signs) for size in range(4) for signs in itertools.product("ab ", repeat=size)]
        for one, other in itertools.product(texts, texts):
            self.check(plain(one), plain(other), len(one + other) % 2, len(one) % 3)

    def test_texts_with_looks(self):
        chance = random.Random(20)
        for turn in range(1500):
            one = self.some_text(chance)
            self.check(one, self.some_text(chance), turn % 2, chance.choice((0, 1, 1, 2, 3)))

    def test_texts_that_were_moved_about(self):
        chance = random.Random(21)
        for turn in range(600):
            one = self.some_text(chance)
            place = chance.randrange(len(one))
            other = one[place:-1] + one[:place] + [chance.choice(one)[:1] + (chance.choice(one)[1],)]
            other[-1] = (10, other[-1][1])
            self.check(one, other, turn % 2, chance.choice((0, 1, 2)))

    def some_text(self, chance):
        signs = chance.choices("ab 1\n", (6, 4, 4, 1, 1), k=chance.randrange(6))
        highest = chance.choice((0, 1, 1, 2))
        looks = [tuple(chance.randint(0, highest) if chance.random() < 0.4 else 0 for k in range(4))
                 for place in range(len(signs) + 1)]
        return list(zip([ord(sign) for sign in signs] + [10], looks))
