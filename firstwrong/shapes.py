"""Shapes of moments: what is left when lives and what was asked and given are not told."""

from firstwrong.momentparts import Sure, is_there, life_now
from firstwrong.moments import Moment, need_moment

# All pointers to blocks that are gone are put as this one.
GONE = (31, 2 ** 30, 0)
MOST_YOUNG = 2 ** 30


def shape_of(moment):
    """The shape of a moment."""
    need_moment(moment)
    memory = {}
    for slot, (how, sort, cells) in moment.memory.items():
        memory[slot] = (how, sort, values_put(moment.lives, cells))
    stacks = []
    for stack in moment.stacks:
        stacks.append(tuple([frame[:2] + (values_put(moment.lives, frame[2]), names_put(frame[3]), frame[4])
                             for frame in stack]))
    lives = [number & 1 for number in moment.lives]
    return Moment(moment.program, Sure(lives), memory, moment.held, tuple(stacks), 0, (), moment.wrong)


def names_put(names):
    """Names of blocks that are there, by their slots alone."""
    return tuple([(slot, 1) for slot, _ in names])


def values_put(lives, values):
    """Values with their pointers put."""
    return tuple([pointer_put(lives, value) if isinstance(value, tuple) else value for value in values])


def pointer_put(lives, pointer):
    """A pointer to a block that is there, by its slot and offset alone."""
    slot, life, offset = pointer
    if life == 0:
        return pointer
    return (slot, 1, offset) if is_there(lives, slot, life) else GONE


def is_young(moment):
    """Whether no number is great, and no pointer names a block that is still to come."""
    need_moment(moment)
    if not all([number < MOST_YOUNG for number in moment.lives]):
        return False
    rows = [block[2] for block in moment.memory.values()]
    rows.extend([frame[2] for stack in moment.stacks for frame in stack])
    pointers = [value for row in rows for value in row if isinstance(value, tuple)]
    return all([life <= life_now(moment.lives, slot) for slot, life, _ in pointers])
