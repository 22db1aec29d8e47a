"""Texts, tokens and comparisons told number by number, as the calls answer them."""

from trackmarks.scripts import DROP, KEEP, PUT


def told_letter(letter):
    return [letter[0]] + list(letter[1])


def told_text(text):
    told = [len(text)]
    for letter in text:
        told.extend(told_letter(letter))
    return told


def told_tokens(tokens):
    return [len(tokens)] + [len(token) for token in tokens]


def told_counts(row):
    fates = [piece.fate for piece in row]
    entries = sum([len(piece.entries) for piece in row])
    return [fates.count(KEEP), fates.count(DROP), fates.count(PUT), entries]


def told_entries(entries, numbers):
    told = [len(entries)]
    for prop, value in entries:
        told.extend([numbers[prop], prop, value])
    return told


def told_row(comparison):
    told = [len(comparison.row)]
    for place, piece in enumerate(comparison.row):
        number = comparison.piece_numbers[place]
        told.extend(told_letter(piece.letter))
        told.append(number if piece.fate == PUT else 0)
        told.append(number if piece.fate == DROP else 0)
        told.extend(told_entries(piece.entries, comparison.entry_numbers[place]))
    return told


def told_changes(changes):
    told = [len(changes)]
    for change in changes:
        # A painted piece has one entry in the paint, so its places count its entries.
        told.extend([change.kind, len(change.put_places), len(change.dropped_places), len(change.painted_places)])
    return told
