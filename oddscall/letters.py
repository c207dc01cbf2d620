"""The letters and the digits of words."""

LETTERS = "abcdefghijklmnopqrstuvwxyz"
DIGITS = "0123456789"


def is_letter(value):
    """Return True if the value is a string of one ASCII lowercase letter."""
    return isinstance(value, str) and len(value) == 1 and value in LETTERS


def is_word(value, most):
    """Return True if the value is a string of at most so many ASCII lowercase letters."""
    return isinstance(value, str) and len(value) <= most and all(letter in LETTERS for letter in value)
