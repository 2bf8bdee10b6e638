"""The plain kinds of things that are handed in: each function takes anything."""

LETTERS = "abcdefghijklmnopqrstuvwxyz"
MOST_LETTERS = 8


def is_whole(thing):
    """Tell whether it is a whole number."""
    return isinstance(thing, int) and not isinstance(thing, bool)


def are_beats(thing):
    """Tell whether it is a rising list of whole numbers from 1 on."""
    if not is_row(thing) or not all([is_whole(beat) and beat >= 1 for beat in thing]):
        return False
    return rises(thing)


def is_row(thing):
    """Tell whether it is a list or a tuple, which stand for one another."""
    return isinstance(thing, (list, tuple))


def is_row_of(many, thing):
    """Tell whether it is a list or a tuple of just so many things."""
    return is_row(thing) and len(thing) == many


def is_name(thing):
    """Tell whether it is a name: a text of one to eight small letters."""
    if not isinstance(thing, str) or not 1 <= len(thing) <= MOST_LETTERS:
        return False
    return all([letter in LETTERS for letter in thing])


def rises(things):
    """Tell whether each thing of the row is less than the next one."""
    return all([low < high for low, high in zip(things, things[1:])])
