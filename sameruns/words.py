"""Texts parted into lines and words; what a word may be.

A word is a tuple of bytes: so it can be any word of a text, and a key of a dict.
"""

from sameruns.reckoning import NUMBERS_BELOW_ZERO

NEWLINE = 10
SPACE = 32
BLANKS = (32, 9, 13)
DIGIT_ZERO = 48
DIGIT_NINE = 57
LETTER_A = 97
LETTER_Z = 122
UNDERSCORE = 95
MINUS = 45

NOT_NAMES = ("label", "goto", "if", "print", "read", "end")
LONGEST_NAME = 16
MOST_DIGITS = 19


def spelled(text):
    """The word that the text stands for."""
    return tuple([ord(sign) for sign in text])


def lines_of(text):
    """The lines of a text, each as the list of its words."""
    lines = []
    words = []
    word = []
    # The newline at the end closes the last line, which a text always has.
    for sign in text + [NEWLINE]:
        if sign != NEWLINE and sign not in BLANKS:
            word.append(sign)
            continue
        if len(word) > 0:
            words.append(tuple(word))
            word = []
        if sign == NEWLINE:
            lines.append(words)
            words = []
    return lines


def is_letter(sign):
    return LETTER_A <= sign <= LETTER_Z


def is_digit(sign):
    return DIGIT_ZERO <= sign <= DIGIT_NINE


def is_name_sign(sign):
    return is_letter(sign) or is_digit(sign) or sign == UNDERSCORE


def is_name(word):
    if len(word) > LONGEST_NAME or not is_letter(word[0]):
        return False
    if word in [spelled(text) for text in NOT_NAMES]:
        return False
    return all([is_name_sign(sign) for sign in word])


def number_of(word):
    """The number that the word writes; None if it writes none."""
    below_zero = word[0] == MINUS
    digits = word[1:] if below_zero else word
    if not 1 <= len(digits) <= MOST_DIGITS:
        return None
    if not all([is_digit(sign) for sign in digits]):
        return None
    size = 0
    for sign in digits:
        size = size * 10 + sign - DIGIT_ZERO
    number = -size if below_zero else size
    if -NUMBERS_BELOW_ZERO <= number < NUMBERS_BELOW_ZERO:
        return number
    return None
