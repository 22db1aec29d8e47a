"""The tokens of a text, with grain 0 and with grain 1.

A token is the list of its letters.
"""

from trackmarks.letters import inner_letters

LETTER_GRAIN = 0
WORD_GRAIN = 1


def is_grain(number):
    return number in (LETTER_GRAIN, WORD_GRAIN)


def is_word_sign(sign):
    return 48 <= sign <= 57 or 65 <= sign <= 90 or 97 <= sign <= 122


def tokens_of(text, grain):
    if grain == LETTER_GRAIN:
        return [[letter] for letter in inner_letters(text)]
    return word_tokens(inner_letters(text))


def word_tokens(letters):
    tokens = []
    within_word = False
    for letter in letters:
        goes_on = is_word_sign(letter[0])
        if goes_on and within_word:
            tokens[-1].append(letter)
        else:
            tokens.append([letter])
        within_word = goes_on
    return tokens


def word_of(token):
    return [letter[0] for letter in token]
