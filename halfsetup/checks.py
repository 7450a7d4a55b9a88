"""What words, numbers, numerals and ascending values are, for all of the package."""

LETTERS = "abcdefghijklmnopqrstuvwxyz"
LONGEST_WORD = 8
DIGITS = "0123456789"
LONGEST_NUMERAL = 2


def is_word(text):
    """Tell whether a text is one to eight letters a to z."""
    if not isinstance(text, str) or not 1 <= len(text) <= LONGEST_WORD:
        return False
    return all([letter in LETTERS for letter in text])


def is_number(value, least, most):
    """Tell whether a value is an integer of a range, both ends included."""
    # Python counts booleans among the integers, the document does not.
    if isinstance(value, bool) or not isinstance(value, int):
        return False
    return least <= value <= most


def is_numeral(text):
    """Tell whether a text is a number of one or two digits without needless zeros."""
    if not 1 <= len(text) <= LONGEST_NUMERAL or not all([digit in DIGITS for digit in text]):
        return False
    return text == "0" or text[0] != "0"


def ascends(values):
    """Tell whether each of the values is greater than the one before."""
    return all([values[at - 1] < values[at] for at in range(1, len(values))])
