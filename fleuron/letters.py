"""Words of small letters."""

LETTERS = "abcdefghijklmnopqrstuvwxyz"


def is_row_of_letters(word, most):
    """Return True if the word consists of 1 to most small letters."""
    return 1 <= len(word) <= most and all([letter in LETTERS for letter in word])
