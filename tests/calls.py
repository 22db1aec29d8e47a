"""The calls as lists of numbers, and a line of them answered."""

from trackmarks.desk import answers


def signs_of(given):
    return [ord(sign) for sign in given] if isinstance(given, str) else list(given)


def row_of(given):
    signs = signs_of(given)
    return [len(signs)] + signs


def old(signs):
    return [0] + row_of(signs)


def new(signs):
    return [1] + row_of(signs)


def copy():
    return [2]


def put(p, signs):
    return [3, p] + row_of(signs)


def cut(p, q):
    return [4, p, q]


def paint(w, p, q, k, v):
    return [5, w, p, q, k, v]


def swap():
    return [6]


def compare(grain, least):
    return [7, grain, least]


def counts():
    return [8]


def row():
    return [9]


def changes():
    return [10]


def version(*numbers):
    return [11] + row_of(numbers)


def take(*numbers):
    return [12] + row_of(numbers)


def text(w):
    return [13, w]


def tokens(w, grain):
    return [14, w, grain]


def distance(grain):
    return [15, grain]


def line_of(calls):
    return [number for call in calls for number in call]


def ask(*calls):
    """The answers of a line, a list for each call."""
    flat = answers(line_of(calls))
    split = []
    place = 0
    while place < len(flat):
        amount = flat[place]
        split.append(flat[place + 1:place + 1 + amount])
        place += 1 + amount
    assert place == len(flat)
    assert len(split) == len(calls)
    return split


def last(*calls):
    return ask(*calls)[-1]


def letters_of(numbers):
    """The letters in an answer of text or version, each its sign and its look."""
    split = [(chr(numbers[place]), tuple(numbers[place + 1:place + 5])) for place in range(1, len(numbers), 5)]
    assert len(numbers) == 1 + 5 * len(split)
    assert numbers[0] == len(split)
    return split


def signs_in(numbers):
    """The signs in an answer of text or version as one text, $ for a paragraph's end."""
    return "".join([sign for sign, look in letters_of(numbers)]).replace("\n", "$")


def pieces_of(numbers):
    """The pieces in an answer of row: sign, look, put number, dropped number, entries."""
    split = []
    place = 1
    while place < len(numbers):
        amount = numbers[place + 7]
        entries = [tuple(numbers[start:start + 3]) for start in range(place + 8, place + 8 + 3 * amount, 3)]
        split.append((chr(numbers[place]), tuple(numbers[place + 1:place + 5]), numbers[place + 5], numbers[place + 6],
                      entries))
        place += 8 + 3 * amount
    assert place == len(numbers)
    assert numbers[0] == len(split)
    return split
