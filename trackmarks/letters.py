"""Signs, looks, letters and texts.

A letter is the pair of its sign and its look, a look the tuple of its four
properties, a text the list of its letters with the last end as the last one.
None of them is changed in place: a changed text is a new list.
"""

PARAGRAPH_END = 10
LOWEST_SIGN = 32
HIGHEST_SIGN = 126
MOST_INNER_LETTERS = 120
PROPERTIES = 4
HIGHEST_VALUE = 99
PLAIN_LOOK = (0, 0, 0, 0)


def is_sign(number):
    return number == PARAGRAPH_END or LOWEST_SIGN <= number <= HIGHEST_SIGN


def are_signs(numbers):
    return all([is_sign(number) for number in numbers])


def plain_letters(signs):
    return [(sign, PLAIN_LOOK) for sign in signs]


def plain_text(signs):
    return plain_letters(signs) + plain_letters([PARAGRAPH_END])


def inner_letters(text):
    return text[:-1]


def painted_letter(letter, prop, value):
    look = letter[1]
    return (letter[0], look[:prop] + (value,) + look[prop + 1:])


def entries_between(old_letter, new_letter):
    """The properties in which two letters differ, each with the new letter's value."""
    old_look = old_letter[1]
    new_look = new_letter[1]
    # Most pairs look alike, and this is asked for every pair of like tokens.
    if old_look == new_look:
        return []
    return [(prop, new_look[prop]) for prop in range(PROPERTIES) if old_look[prop] != new_look[prop]]


def difference(old_letter, new_letter):
    return len(entries_between(old_letter, new_letter))
