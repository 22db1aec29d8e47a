"""The object that the calls are made on, and the calls in one list answered."""

from trackmarks.comparisons import compared, distance_between
from trackmarks.letters import HIGHEST_VALUE, MOST_INNER_LETTERS, PROPERTIES
from trackmarks.letters import are_signs, inner_letters, painted_letter, plain_letters, plain_text
from trackmarks.reader import CallReader
from trackmarks.telling import told_changes, told_counts, told_row, told_text, told_tokens
from trackmarks.tokens import is_grain, tokens_of
from trackmarks.versions import version_of

NO_SUCH_PLACE = -1
NO_SUCH_VALUE = -2
NO_COMPARISON = -4
TOO_LONG = -5

OLD_TEXT = 0
NEW_TEXT = 1
LONGEST_LEAST = 200

OLD_CALL = 0
NEW_CALL = 1
COPY_CALL = 2
PUT_CALL = 3
CUT_CALL = 4
PAINT_CALL = 5
SWAP_CALL = 6
COMPARE_CALL = 7
COUNTS_CALL = 8
ROW_CALL = 9
CHANGES_CALL = 10
VERSION_CALL = 11
TAKE_CALL = 12
TEXT_CALL = 13
TOKENS_CALL = 14
DISTANCE_CALL = 15


class UnknownCall(ValueError):
    """The list holds the number of a call that is not there."""


def refusal_of_signs(signs):
    """The refusal of the signs of a whole text, or 0 if they are taken."""
    if not are_signs(signs):
        return NO_SUCH_VALUE
    if len(signs) > MOST_INNER_LETTERS:
        return TOO_LONG
    return 0


def is_text(w):
    return w in (OLD_TEXT, NEW_TEXT)


class Desk:
    """It holds the two texts and the comparison, or None; each call answers its numbers."""

    def __init__(self):
        self.old_text = plain_text([])
        self.new_text = plain_text([])
        self.comparison = None

    def hold_texts(self, old_text, new_text):
        self.old_text = old_text
        self.new_text = new_text
        # A comparison speaks of the texts it was made from; these may be others.
        self.comparison = None

    def text_called(self, w):
        return self.old_text if w == OLD_TEXT else self.new_text

    def set_old(self, signs):
        refusal = refusal_of_signs(signs)
        if refusal < 0:
            return [refusal]
        self.hold_texts(plain_text(signs), self.new_text)
        return [len(self.old_text)]

    def set_new(self, signs):
        refusal = refusal_of_signs(signs)
        if refusal < 0:
            return [refusal]
        self.hold_texts(self.old_text, plain_text(signs))
        return [len(self.new_text)]

    def copy_old(self):
        self.hold_texts(self.old_text, list(self.old_text))
        return [len(self.new_text)]

    def put_signs(self, p, signs):
        text = self.new_text
        if not 0 <= p < len(text):
            return [NO_SUCH_PLACE]
        if len(signs) == 0 or not are_signs(signs):
            return [NO_SUCH_VALUE]
        if len(text) - 1 + len(signs) > MOST_INNER_LETTERS:
            return [TOO_LONG]
        self.hold_texts(self.old_text, text[:p] + plain_letters(signs) + text[p:])
        return [len(self.new_text)]

    def cut_letters(self, p, q):
        text = self.new_text
        if not 0 <= p < q < len(text):
            return [NO_SUCH_PLACE]
        self.hold_texts(self.old_text, text[:p] + text[q:])
        return [len(self.new_text)]

    def paint_letters(self, w, p, q, k, v):
        if not is_text(w) or not 0 <= k < PROPERTIES or not 0 <= v <= HIGHEST_VALUE:
            return [NO_SUCH_VALUE]
        text = self.text_called(w)
        if not 0 <= p < q <= len(text):
            return [NO_SUCH_PLACE]
        others = [letter for letter in text[p:q] if letter[1][k] != v]
        painted = text[:p] + [painted_letter(letter, k, v) for letter in text[p:q]] + text[q:]
        if w == OLD_TEXT:
            self.hold_texts(painted, self.new_text)
        else:
            self.hold_texts(self.old_text, painted)
        return [len(others)]

    def swap_texts(self):
        self.hold_texts(self.new_text, self.old_text)
        return [len(self.old_text)]

    def compare_texts(self, grain, least):
        if not is_grain(grain) or not 0 <= least <= LONGEST_LEAST:
            return [NO_SUCH_VALUE]
        self.comparison = compared(self.old_text, self.new_text, grain, least)
        return [len(self.comparison.changes), self.comparison.cost]

    def tell_counts(self):
        if self.comparison is None:
            return [NO_COMPARISON]
        return told_counts(self.comparison.row)

    def tell_row(self):
        if self.comparison is None:
            return [NO_COMPARISON]
        return told_row(self.comparison)

    def tell_changes(self):
        if self.comparison is None:
            return [NO_COMPARISON]
        return told_changes(self.comparison.changes)

    def refusal_of_set(self, numbers):
        """The refusal of a set of changes, or 0 if there is a version for it."""
        if self.comparison is None:
            return NO_COMPARISON
        most = len(self.comparison.changes)
        if not all([1 <= number <= most for number in numbers]):
            return NO_SUCH_VALUE
        return 0

    def tell_version(self, numbers):
        refusal = self.refusal_of_set(numbers)
        if refusal < 0:
            return [refusal]
        return told_text(version_of(self.comparison, numbers))

    def take_version(self, numbers):
        refusal = self.refusal_of_set(numbers)
        if refusal < 0:
            return [refusal]
        text = version_of(self.comparison, numbers)
        if len(inner_letters(text)) > MOST_INNER_LETTERS:
            return [TOO_LONG]
        self.hold_texts(text, self.new_text)
        return [len(self.old_text)]

    def tell_text(self, w):
        if not is_text(w):
            return [NO_SUCH_VALUE]
        return told_text(self.text_called(w))

    def tell_tokens(self, w, grain):
        if not is_text(w) or not is_grain(grain):
            return [NO_SUCH_VALUE]
        return told_tokens(tokens_of(self.text_called(w), grain))

    def distance(self, grain):
        if not is_grain(grain):
            return [NO_SUCH_VALUE]
        return [distance_between(self.old_text, self.new_text, grain)]


def answer_of_texts(desk, number, reader):
    """The answer of a call that sets or changes a text, or None if the number is of no such call."""
    if number == OLD_CALL:
        return desk.set_old(reader.read_row())
    if number == NEW_CALL:
        return desk.set_new(reader.read_row())
    if number == COPY_CALL:
        return desk.copy_old()
    if number == PUT_CALL:
        p = reader.read_number()
        return desk.put_signs(p, reader.read_row())
    if number == CUT_CALL:
        given = reader.read_numbers(2)
        return desk.cut_letters(given[0], given[1])
    if number == PAINT_CALL:
        given = reader.read_numbers(5)
        return desk.paint_letters(given[0], given[1], given[2], given[3], given[4])
    if number == SWAP_CALL:
        return desk.swap_texts()
    return None


def answer_of_comparison(desk, number, reader):
    """The answer of a call that makes a comparison or asks the one held, or None."""
    if number == COMPARE_CALL:
        given = reader.read_numbers(2)
        return desk.compare_texts(given[0], given[1])
    if number == COUNTS_CALL:
        return desk.tell_counts()
    if number == ROW_CALL:
        return desk.tell_row()
    if number == CHANGES_CALL:
        return desk.tell_changes()
    if number == VERSION_CALL:
        return desk.tell_version(reader.read_row())
    if number == TAKE_CALL:
        return desk.take_version(reader.read_row())
    return None


def answer_of_question(desk, number, reader):
    """The answer of a call that asks the texts as they are, or None."""
    if number == TEXT_CALL:
        return desk.tell_text(reader.read_number())
    if number == TOKENS_CALL:
        given = reader.read_numbers(2)
        return desk.tell_tokens(given[0], given[1])
    if number == DISTANCE_CALL:
        return desk.distance(reader.read_number())
    return None


def next_answer(desk, reader):
    number = reader.read_number()
    answer = answer_of_texts(desk, number, reader)
    if answer is None:
        answer = answer_of_comparison(desk, number, reader)
    if answer is None:
        answer = answer_of_question(desk, number, reader)
    if answer is None:
        raise UnknownCall(f"there is no call {number}")
    return answer


def answers(calls):
    """For each call how many numbers it answers, and these, one behind another."""
    desk = Desk()
    reader = CallReader(calls)
    given = []
    while reader.has_more():
        answer = next_answer(desk, reader)
        given.append(len(answer))
        given.extend(answer)
    return given
