"""Layouts: where blocks stand in the endless row of addresses."""

from firstwrong.errors import BadLayout, BadNumber
from firstwrong.kinds import is_count, is_int, is_number, is_number_in, is_row, is_tuple_of

MOST_HINTS = 400
LAST_HINT = 2 ** 20


def is_layout(thing):
    """Whether any value is a pair (fill, hints)."""
    if not is_tuple_of(thing, 2):
        return False
    fill, hints = thing
    if not is_int(fill) or not isinstance(hints, tuple) or len(hints) > MOST_HINTS:
        return False
    return all([is_number_in(hint, 1, LAST_HINT) for hint in hints])


def need_layout(thing, part):
    """Refuses what is no layout."""
    if not is_layout(thing):
        raise BadLayout(part)


def is_taken(thing):
    """A list of pairs (base, many), no two of which take an address in common."""
    if not is_row(thing) or not all([is_block_at(pair) for pair in thing]):
        return False
    pairs = sorted(thing)
    return all([one[0] + one[1] < other[0] for one, other in zip(pairs, pairs[1:])])


def is_block_at(thing):
    """A pair of a base from 1 on and a number of cells."""
    if not is_tuple_of(thing, 2) or not is_number(thing[0]):
        return False
    return thing[0] >= 1 and is_number_in(thing[1], 1, 16)


def least_base(taken, many, hint):
    """The least base from hint on for a block of so many cells beside those taken."""
    if not is_taken(taken):
        raise BadLayout("taken")
    if not is_number_in(many, 1, 16):
        raise BadNumber("many")
    if not is_count(hint) or hint < 1:
        raise BadNumber("hint")
    return base_beside(taken, many, hint)


def base_beside(taken, many, hint):
    """The same for what surely is right."""
    base = hint
    for other, cells in sorted(taken):
        if other <= base + many and base <= other + cells:
            base = other + cells + 1
    return base


def next_base(hints, number, taken, greatest, many):
    """The base of block number so of a run; greatest is the last address ever taken."""
    if number < len(hints):
        return base_beside(taken, many, hints[number])
    return greatest + 1
