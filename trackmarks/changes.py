"""The changes that the pieces of a row belong to."""

from trackmarks.letters import PROPERTIES
from trackmarks.scripts import DROP, PUT

PUT_KIND = 1
CUT_KIND = 2
PAINT_KIND = 3
MOVE_KIND = 4


class Change:
    """Its kind, and the places in the row of its put, its dropped and its painted pieces.

    painted_property is the property of a paint; in another change it tells nothing.
    """

    def __init__(self, kind, put_places, dropped_places, painted_places, painted_property):
        self.kind = kind
        self.put_places = put_places
        self.dropped_places = dropped_places
        self.painted_places = painted_places
        self.painted_property = painted_property


def stretches(marks):
    """The places of each stretch, as long as can be, of like marks other than None."""
    found = []
    before = None
    for place, mark in enumerate(marks):
        if mark is not None and mark == before:
            found[-1].append(place)
        elif mark is not None:
            found.append([place])
        before = mark
    return found


def fate_stretches(row, fate):
    return stretches([True if piece.fate == fate else None for piece in row])


def entry_value(piece, prop):
    for entry in piece.entries:
        if entry[0] == prop:
            return entry[1]
    return None


def paints(row):
    found = []
    for prop in range(PROPERTIES):
        for places in stretches([entry_value(piece, prop) for piece in row]):
            found.append(Change(PAINT_KIND, [], [], places, prop))
    return found


def letters_at(row, places):
    return [row[place].letter for place in places]


def first_like(row, cut_places, puts):
    letters = letters_at(row, cut_places)
    for put_places in puts:
        if letters_at(row, put_places) == letters:
            return put_places
    return None


def cuts_puts_and_moves(row, least):
    found = []
    puts = fate_stretches(row, PUT)
    for cut_places in fate_stretches(row, DROP):
        partner = None
        if 1 <= least <= len(cut_places):
            partner = first_like(row, cut_places, puts)
        if partner is None:
            found.append(Change(CUT_KIND, [], cut_places, [], 0))
        else:
            puts.remove(partner)
            found.append(Change(MOVE_KIND, partner, cut_places, [], 0))
    for put_places in puts:
        found.append(Change(PUT_KIND, put_places, [], [], 0))
    return found


def rank(change):
    """What changes are numbered by: the first piece, then, for paints, the property."""
    return (min(change.put_places + change.dropped_places + change.painted_places), change.painted_property)


def changes_of(row, least):
    """The changes in the order of their numbers: the first one is change 1."""
    return sorted(cuts_puts_and_moves(row, least) + paints(row), key=rank)


def numbers_of_pieces(row, changes):
    """For each piece the number of the put, the cut or the move that it is in; 0 if it is kept."""
    numbers = [0 for piece in row]
    for number, change in enumerate(changes, start=1):
        for place in change.put_places + change.dropped_places:
            numbers[place] = number
    return numbers


def numbers_of_entries(row, changes):
    """For each piece a dict from the properties of its entries to the numbers of their paints."""
    numbers = [{} for piece in row]
    for number, change in enumerate(changes, start=1):
        for place in change.painted_places:
            numbers[place][change.painted_property] = number
    return numbers
