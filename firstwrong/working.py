"""Expressions worked out, with each look at what is forbidden.

What is worked out is a pair (sort, value).
"""

from firstwrong.bodies import LEAVES
from firstwrong.doings import GoneWrong
from firstwrong.kinds import is_int


def worked(doing, expression):
    """An expression worked out for the frame on top."""
    word = expression[0]
    if word in LEAVES:
        return leaf(doing, expression)
    if word == "and" or word == "or":
        return both(doing, expression)
    return made(doing, word, [worked(doing, part) for part in expression[1:]])


def both(doing, expression):
    """ "and", "or": the second part only if the first one does not settle it."""
    word, first, second = expression
    value = worked(doing, first)[1]
    if settles(word, value):
        return truth(value)
    return truth(worked(doing, second)[1])


def settles(word, value):
    """Whether the first part settles an "and" or "or"."""
    return (value == 0) == (word == "and")


def truth(value):
    """1 for what holds, else 0."""
    return ("int", 1 if value != 0 else 0)


def leaf(doing, expression):
    """An expression without parts."""
    word, told = expression
    if word in ("int", "byte"):
        return expression
    if word == "local":
        sort, value = doing.local(told)
        if value is None:
            raise GoneWrong("unset")
        return (sort, value)
    if word == "null":
        return (("to", told), doing.slots.null)
    if word == "shared":
        slot, sort = doing.names.shared[told]
        return (("to", sort), doing.slots.first((slot, 1)))
    sort, name = doing.block_named(told)
    return (("to", sort), doing.slots.first(name))


def made(doing, word, parts):
    """What a word makes of its parts."""
    deed = DEEDS[word]
    return deed(doing, parts)


def name_read(doing, pointer):
    """The name of a pointer's block, which is looked at; None for null."""
    name = doing.slots.name(pointer)
    if name is not None:
        doing.reads.append(("block",) + name)
    return name


def block_there(doing, name):
    """A block that must be there."""
    block = doing.slots.block(name)
    if block is None:
        raise GoneWrong("gone")
    return block


def cell_at(doing, sort, pointer):
    """The cell that is to be read or written through a pointer of a sort."""
    name = name_read(doing, pointer)
    if name is None:
        raise GoneWrong("null")
    _, kept, many = block_there(doing, name)
    offset = doing.slots.offset(pointer)
    if offset >= many:
        raise GoneWrong("beyond")
    if kept != sort[1]:
        raise GoneWrong("kind")
    return ("cell",) + name + (offset,)


def do_at(doing, parts):
    """The value in a cell."""
    sort, pointer = parts[0]
    doing.reads.append(cell_at(doing, sort, pointer))
    value = doing.slots.read(pointer)
    if value is None:
        raise GoneWrong("unset")
    return (sort[1], value)


def do_on(doing, parts):
    """A pointer moved."""
    (sort, pointer), (_, by) = parts
    name = name_read(doing, pointer)
    if name is None:
        if by != 0:
            raise GoneWrong("null")
        return parts[0]
    _, _, many = block_there(doing, name)
    if not 0 <= doing.slots.offset(pointer) + by <= many:
        raise GoneWrong("beyond")
    return (sort, doing.slots.moved(pointer, by))


def offsets(doing, parts):
    """The offsets of two pointers into one block, both 0 if both are null."""
    first, second = parts[0][1], parts[1][1]
    names = [name_read(doing, first), name_read(doing, second)]
    if names == [None, None]:
        return (0, 0)
    if None in names:
        raise GoneWrong("null")
    for name in names:
        block_there(doing, name)
    if names[0] != names[1]:
        raise GoneWrong("unlike")
    return (doing.slots.offset(first), doing.slots.offset(second))


def do_gap(doing, parts):
    """How many cells the first pointer is behind the second one."""
    first, second = offsets(doing, parts)
    return ("int", first - second)


def do_below(doing, parts):
    """Whether the first number or pointer is below the second one."""
    if isinstance(parts[0][0], tuple):
        first, second = offsets(doing, parts)
    else:
        first, second = parts[0][1], parts[1][1]
    return ("int", 1 if first < second else 0)


def do_same(doing, parts):
    """Whether two values are the same; pointers must be null or lead to what is there."""
    (sort, first), (_, second) = parts
    if isinstance(sort, tuple):
        names = [name_read(doing, first), name_read(doing, second)]
        for name in names:
            if name is not None:
                block_there(doing, name)
    return ("int", 1 if first == second else 0)


def bounded(sort, number):
    """Bytes modulo 256; an int that is too great is wrong."""
    if sort == "byte":
        return (sort, number & 255)
    if not is_int(number):
        raise GoneWrong("great")
    return (sort, number)


def do_sum(doing, parts):
    """Both together."""
    return bounded(parts[0][0], parts[0][1] + parts[1][1])


def do_less(doing, parts):
    """The first one less the second one."""
    return bounded(parts[0][0], parts[0][1] - parts[1][1])


def do_times(doing, parts):
    """The first one times the second one."""
    return bounded(parts[0][0], parts[0][1] * parts[1][1])


def divisor(parts):
    """The second part, which must not be 0."""
    if parts[1][1] == 0:
        raise GoneWrong("share")
    return parts[1][1]


def do_share(doing, parts):
    """The quotient, rounded down."""
    by = divisor(parts)
    return bounded(parts[0][0], parts[0][1] // by)


def do_rest(doing, parts):
    """What the rounded quotient leaves."""
    by = divisor(parts)
    return (parts[0][0], parts[0][1] - by * (parts[0][1] // by))


def do_wide(doing, parts):
    """A byte as an int."""
    return ("int", parts[0][1])


def do_low(doing, parts):
    """An int modulo 256."""
    return ("byte", parts[0][1] & 255)


def do_not(doing, parts):
    """1 for 0, else 0."""
    return truth(1 if parts[0][1] == 0 else 0)


DEEDS = {"at": do_at, "on": do_on, "gap": do_gap, "same": do_same, "below": do_below, "sum": do_sum,
         "less": do_less, "times": do_times, "share": do_share, "rest": do_rest, "wide": do_wide,
         "low": do_low, "not": do_not}
