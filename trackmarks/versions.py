"""The version that a comparison gives for a set of changes."""

from trackmarks.letters import painted_letter
from trackmarks.scripts import DROP, PUT


def is_left_out(piece, number, accepted):
    if piece.fate == DROP:
        return number in accepted
    if piece.fate == PUT:
        return number not in accepted
    return False


def version_letter(piece, numbers, accepted):
    letter = piece.letter
    for prop, value in piece.entries:
        if numbers[prop] in accepted:
            letter = painted_letter(letter, prop, value)
    return letter


def version_of(comparison, numbers):
    """The text if the changes with these numbers are accepted and all others rejected."""
    accepted = {}
    for number in numbers:
        accepted[number] = True
    text = []
    for place, piece in enumerate(comparison.row):
        if not is_left_out(piece, comparison.piece_numbers[place], accepted):
            text.append(version_letter(piece, comparison.entry_numbers[place], accepted))
    return text
