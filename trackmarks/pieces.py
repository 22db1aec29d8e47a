"""The row of pieces that a script gives."""

from trackmarks.letters import entries_between
from trackmarks.scripts import DROP, KEEP, PUT


class Piece:
    """A letter of the row: the step that it comes from, its sign and look, its entries if it is kept."""

    def __init__(self, fate, letter, entries):
        self.fate = fate
        self.letter = letter
        self.entries = entries


def kept_pieces(old_letters, new_letters):
    return [Piece(KEEP, one, entries_between(one, other)) for one, other in zip(old_letters, new_letters)]


def bare_pieces(fate, letters):
    return [Piece(fate, letter, []) for letter in letters]


def row_of_pieces(old_text, new_text, scripts):
    row = []
    for step, i, j in scripts.chosen_steps():
        if step == KEEP:
            row.extend(kept_pieces(scripts.old_tokens[i], scripts.new_tokens[j]))
        elif step == DROP:
            row.extend(bare_pieces(DROP, scripts.old_tokens[i]))
        else:
            row.extend(bare_pieces(PUT, scripts.new_tokens[j]))
    return row + kept_pieces(old_text[-1:], new_text[-1:])
