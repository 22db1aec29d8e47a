"""An old text and a new one compared."""

from trackmarks.changes import changes_of
from trackmarks.pieces import row_of_pieces
from trackmarks.scripts import Scripts


class Comparison:
    """The row of pieces, the changes in the order of their numbers, and the cost."""

    def __init__(self, row, changes, cost):
        self.row = row
        self.changes = changes
        self.cost = cost


def compared(old_text, new_text, grain, least):
    scripts = Scripts(old_text, new_text, grain)
    row = row_of_pieces(old_text, new_text, scripts)
    return Comparison(row, changes_of(row, least), scripts.least_cost())


def distance_between(old_text, new_text, grain):
    return Scripts(old_text, new_text, grain).least_cost()
