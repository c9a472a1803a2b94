"""Plain kinds of values: numbers, names, sequences, rows."""

MOST_PLACES = 3
SIDES = ("left", "right")
# The letters that stand for a maker's places.
PLACE_LETTERS = ("a", "b", "c")
_LETTERS = "abcdefghijklmnopqrstuvwxyz"
_LONGEST_NAME = 8


def is_number(value):
    """Whether the value is an integer from 0 on."""
    return isinstance(value, int) and not isinstance(value, bool) and value >= 0


def is_number_below(value, end):
    """Whether the value is a number below the end."""
    return is_number(value) and value < end


def is_sequence(value, lists=True):
    """Whether the value is a tuple or, where lists are let, a list."""
    return isinstance(value, tuple) or (lists and isinstance(value, list))


def is_letter_sign(sign):
    """Whether one character is a letter of names."""
    return sign in _LETTERS


def is_name(value):
    """Whether the value is a name of one to eight letters."""
    if not isinstance(value, str) or not 1 <= len(value) <= _LONGEST_NAME:
        return False
    return all([is_letter_sign(sign) for sign in value])


def lot_of(values):
    """The values (numbers, strings, shallow tuples of these) ascending, each once."""
    return tuple(sorted(set(values)))


def least_of(lots):
    """Those of the lots (tuples) within which no other one lies, ascending."""
    every = lot_of(lots)
    return tuple([lot for lot in every if not any([
        other != lot and all([each in lot for each in other]) for other in every])])


def rows_of(places, signs=2):
    """All rows of so many places, ascending."""
    rows = [()]
    for _ in range(places):
        rows = [row + (sign,) for row in rows for sign in range(signs)]
    return tuple(rows)


def formed_row(value, signs=2, lists=True):
    """The value as a tuple of numbers below signs, or None."""
    if not is_sequence(value, lists):
        return None
    if not all([is_number_below(sign, signs) for sign in value]):
        return None
    return tuple(value)


def row_of_places(value, places, signs=2, lists=True):
    """The value as a row of just so many places, or None."""
    row = formed_row(value, signs, lists)
    return None if row is None or len(row) != places else row
