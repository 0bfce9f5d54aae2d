"""Names, integers and numbers, told apart from all other values."""

LETTERS = "abcdefghijklmnopqrstuvwxyz"
DIGITS = "0123456789"
LETTERS_AND_DIGITS = "abcdefghijklmnopqrstuvwxyz0123456789"
LONGEST_WORD = 12


def is_name(value):
    """Return whether a value is a name."""
    if not isinstance(value, str) or not 1 <= len(value) <= LONGEST_WORD:
        return False
    return value[0] in LETTERS and all(sign in LETTERS_AND_DIGITS for sign in value)


def is_integer(value):
    """Return whether a value is an integer, which True and False are not."""
    return isinstance(value, int) and not isinstance(value, bool)


def is_number(value):
    """Return whether a value is an integer of at least 0."""
    return is_integer(value) and value >= 0
