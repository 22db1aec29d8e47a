"""The calls as lists of numbers, and a line of them answered."""

from trackmarks.desk import answers


def signs_of(text):
    return [ord(sign) for sign in text] if isinstance(text, str) else list(text)


def row_of(text):
    signs = signs_of(text)
    return [len(signs)] + signs


def old(text):
    return [0] + row_of(text)


def new(text):
    return [1] + row_of(text)


def copy():
    return [2]


def put(p, text):
    return [3, p] + row_of(text)


def cut(p, q):
    return [4, p, q]


def paint(w, p, q, k, v):
    return [5, w, p, q, k, v]


def swap():
    return [6]


def compare(grain, least):
    return [7, grain, least]


def distance(grain):
    return [15, grain]


def line_of(calls):
    return [number for call in calls for number in call]


def ask(*calls):
    """The answers of a line, a list for each call."""
    flat = answers(line_of(calls))
    split = []
    place = 0
    while place < len(flat):
        amount = flat[place]
        split.append(flat[place + 1:place + 1 + amount])
        place += 1 + amount
    assert place == len(flat)
    assert len(split) == len(calls)
    return split


def last(*calls):
    return ask(*calls)[-1]
