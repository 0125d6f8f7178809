"""Whether any value is a number, a word, a row: judged by its kind, too."""

LETTERS = "abcdefghijklmnopqrstuvwxyz"


def is_number(thing):
    """An int that is no bool."""
    return isinstance(thing, int) and not isinstance(thing, bool)


def is_number_in(thing, low, high):
    """A number from low to high."""
    return is_number(thing) and low <= thing <= high


def is_count(thing):
    """A number from 0 on."""
    return is_number(thing) and thing >= 0


def is_int(thing):
    """A number within the bounds of the sort int."""
    return is_number_in(thing, -(2 ** 31), 2 ** 31 - 1)


def is_word(thing):
    """A string of 1 to 12 letters from a to z."""
    if not isinstance(thing, str) or not 1 <= len(thing) <= 12:
        return False
    return all([letter in LETTERS for letter in thing])


def is_one_of(thing, words):
    """A string that stands among these."""
    return isinstance(thing, str) and thing in words


def is_row(thing):
    """What will do where a list is spoken of."""
    return isinstance(thing, (list, tuple))


def is_tuple_of(thing, many):
    """A tuple of so many things."""
    return isinstance(thing, tuple) and len(thing) == many


def is_byte_row(thing):
    """A row of bytes, as it is handed in."""
    return is_row(thing) and all([is_number_in(item, 0, 255) for item in thing])


def is_same(thing, told):
    """Whether any value is this plain one, by its kinds, too."""
    if isinstance(told, tuple):
        if not is_tuple_of(thing, len(told)):
            return False
        return all([is_same(part, piece) for part, piece in zip(thing, told)])
    if told is None:
        return thing is None
    if isinstance(told, str):
        return isinstance(thing, str) and thing == told
    return is_number(thing) and thing == told
