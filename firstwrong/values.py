"""Sorts, and the values of each."""

from firstwrong.errors import BadNumber
from firstwrong.kinds import is_int, is_number, is_number_in, is_one_of, is_tuple_of

NULL = (0, 0, 0)
PLAIN = ("int", "byte")
CELL_SORTS = ("int", "byte", ("to", "int"), ("to", "byte"))


def is_pointer_to(thing, deep):
    """A plain sort, or "to" at most so often around one."""
    around = 0
    while is_tuple_of(thing, 2) and is_one_of(thing[0], ("to",)) and around < deep:
        thing = thing[1]
        around += 1
    return is_one_of(thing, PLAIN)


def is_sort(thing):
    """Whether any value is a sort."""
    return is_pointer_to(thing, 2)


def is_cell_sort(thing):
    """Whether any value is a sort of which there are pointers."""
    return is_pointer_to(thing, 1)


def is_pointer(thing):
    """Whether any value is null or a triple (slot, life, offset)."""
    if not is_tuple_of(thing, 3) or not all([is_number(part) for part in thing]):
        return False
    if thing == NULL:
        return True
    slot, life, offset = thing
    return 0 <= slot <= 31 and 1 <= life <= 2 ** 30 and 0 <= offset <= 16


def is_value(sort, thing):
    """Whether any value is one of this sort."""
    if not is_sort(sort):
        raise BadNumber("sort")
    return is_of_sort(sort, thing)


def is_of_sort(sort, thing):
    """The same for what surely is a sort."""
    if sort == "int":
        return is_int(thing)
    if sort == "byte":
        return is_number_in(thing, 0, 255)
    return is_pointer(thing)


def nought(sort):
    """What stands in the cells of shared blocks at the beginning."""
    if isinstance(sort, tuple):
        return NULL
    return 0
