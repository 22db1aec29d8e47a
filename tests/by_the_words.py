"""The comparison made again by the document's words, with no thought for speed.

All scripts are written out, the one chosen is sifted from them step by step,
and each change is a list of (place in the row, property or None).
"""

ORDER = ("keep", "drop", "put")


def tokens(text, grain):
    inner = text[:-1]
    if grain == 0:
        return [[letter] for letter in inner]
    cut = []
    for place, letter in enumerate(inner):
        wordly = chr(letter[0]).isalnum()
        if wordly and place > 0 and chr(inner[place - 1][0]).isalnum():
            cut[-1].append(letter)
        else:
            cut.append([letter])
    return cut


def difference(one, other):
    return sum(a != b for a, b in zip(one[1], other[1]))


def of_one_word(one, other):
    return [letter[0] for letter in one] == [letter[0] for letter in other]


def scripts(olds, news):
    """All scripts, each a pair of its steps and its cost."""
    if not olds and not news:
        return [((), 0)]
    found = []
    if olds and news and of_one_word(olds[0], news[0]):
        cost = sum(difference(a, b) for a, b in zip(olds[0], news[0]))
        found += [(("keep",) + steps, cost + more) for steps, more in scripts(olds[1:], news[1:])]
    if olds:
        found += [(("drop",) + steps, len(olds[0]) + more) for steps, more in scripts(olds[1:], news)]
    if news:
        found += [(("put",) + steps, len(news[0]) + more) for steps, more in scripts(olds, news[1:])]
    return found


def chosen(olds, news):
    every = scripts(olds, news)
    least = min(cost for steps, cost in every)
    left = [steps for steps, cost in every if cost == least]
    place = 0
    while len(left) > 1:
        step = [step for step in ORDER if any(steps[place] == step for steps in left)][0]
        left = [steps for steps in left if steps[place] == step]
        place += 1
    return left[0], least


def pieces(old_text, new_text, grain):
    olds = tokens(old_text, grain)
    news = tokens(new_text, grain)
    steps, cost = chosen(olds, news)
    row = []
    for step in steps:
        if step == "drop":
            row += [("drop", letter, []) for letter in olds.pop(0)]
        elif step == "put":
            row += [("put", letter, []) for letter in news.pop(0)]
        else:
            row += [kept(one, other) for one, other in zip(olds.pop(0), news.pop(0))]
    row.append(kept(old_text[-1], new_text[-1]))
    return row, cost + difference(old_text[-1], new_text[-1])


def kept(one, other):
    return ("keep", one, [(k, other[1][k]) for k in range(4) if one[1][k] != other[1][k]])


def longest(row, holds):
    """Each stretch of the row, as long as can be, all of whose pieces hold."""
    found = []
    for start in range(len(row)):
        for end in range(start + 1, len(row) + 1):
            inside = all(holds(piece) for piece in row[start:end])
            begins = start == 0 or not holds(row[start - 1])
            ends = end == len(row) or not holds(row[end])
            if inside and begins and ends:
                found.append(list(range(start, end)))
    return found


def changes(row, least):
    """Each change: its kind, its put, its dropped and its painted places, its property."""
    cuts = longest(row, lambda piece: piece[0] == "drop")
    puts = longest(row, lambda piece: piece[0] == "put")
    moves = []
    for cut in cuts:
        like = [put for put in puts if put not in [move[1] for move in moves]
                and [row[place][1] for place in put] == [row[place][1] for place in cut]]
        if least > 0 and len(cut) >= least and like:
            moves.append((cut, like[0]))
    found = [(min(cut + put), 0, 4, put, cut, []) for cut, put in moves]
    found += [(cut[0], 0, 2, [], cut, []) for cut in cuts if cut not in [move[0] for move in moves]]
    found += [(put[0], 0, 1, put, [], []) for put in puts if put not in [move[1] for move in moves]]
    for k, v in sorted({entry for piece in row for entry in piece[2]}):
        for places in longest(row, lambda piece: (k, v) in piece[2]):
            found.append((places[0], k, 3, [], [], places))
    return [(kind, put, cut, painted, k) for first, k, kind, put, cut, painted in sorted(found)]


def number_of(found, place, k):
    """The number of the change that a piece, or its entry with the property k, belongs to."""
    for number, (kind, put, cut, painted, prop) in enumerate(found, start=1):
        if (k is None and place in put + cut) or (k is not None and place in painted and prop == k):
            return number
    return 0


def told_row(row, found):
    told = [len(row)]
    for place, (fate, (sign, look), entries) in enumerate(row):
        number = number_of(found, place, None)
        told += [sign, *look, number if fate == "put" else 0, number if fate == "drop" else 0, len(entries)]
        for k, v in entries:
            told += [number_of(found, place, k), k, v]
    return told


def told_changes(found):
    told = [len(found)]
    for kind, put, cut, painted, k in found:
        told += [kind, len(put), len(cut), len(painted)]
    return told


def told_counts(row):
    fates = [fate for fate, letter, entries in row]
    return [fates.count("keep"), fates.count("drop"), fates.count("put"), sum(len(entries) for *rest, entries in row)]


def told_text(text):
    return [len(text)] + [number for sign, look in text for number in (sign, *look)]


def version(row, found, accepted):
    text = []
    for place, (fate, (sign, look), entries) in enumerate(row):
        number = number_of(found, place, None)
        if (fate == "drop" and number in accepted) or (fate == "put" and number not in accepted):
            continue
        values = dict(enumerate(look))
        values.update({k: v for k, v in entries if number_of(found, place, k) in accepted})
        text.append((sign, tuple(values[k] for k in range(4))))
    return text
