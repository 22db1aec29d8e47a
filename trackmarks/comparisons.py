"""An old text and a new one compared."""

from trackmarks.changes import changes_of, numbers_of_entries, numbers_of_pieces
from trackmarks.pieces import row_of_pieces
from trackmarks.scripts import Scripts


class Comparison:
    """The row of pieces, the changes in the order of their numbers, and the cost.

    piece_numbers and entry_numbers tell for each piece of the row the numbers of its changes.
    """

    def __init__(self, row, changes, cost):
        self.row = row
        self.changes = changes
        self.cost = cost
        self.piece_numbers = numbers_of_pieces(row, changes)
        self.entry_numbers = numbers_of_entries(row, changes)


def compared(old_text, new_text, grain, least):
    scripts = Scripts(old_text, new_text, grain)
    row = row_of_pieces(old_text, new_text, scripts)
    return Comparison(row, changes_of(row, least), scripts.least_cost())


def distance_between(old_text, new_text, grain):
    return Scripts(old_text, new_text, grain).least_cost()
