"""Words that several kinds of text have in common."""

from leverhouse.machine import MOST_HURRY

DIGITS = "0123456789"


def is_short_number(word, most_digits):
    """True if the word is a number of at most so many digits, without a leading zero."""
    if not 1 <= len(word) <= most_digits or any([letter not in DIGITS for letter in word]):
        return False
    return word == "0" or word[0] != "0"


def is_hurry(word):
    """True if the word is a number from 0 to 8."""
    return is_short_number(word, 1) and int(word) <= MOST_HURRY
