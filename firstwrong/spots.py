"""Spots of a moment: cells and locals, as sights and looks name them."""

from firstwrong.kinds import is_number_in, is_one_of, is_tuple_of, is_word
from firstwrong.momentparts import MOST_FRAMES, SLOTS, is_there, life_now

MOST_LIFE = 2 ** 30
MOST_OFFSET = 15
ALONE = ("free", "asked", "given", "wrong")


def is_cell_of(program, thing):
    """Whether any value is a cell of a program, ("wrong",) among them."""
    if not isinstance(thing, tuple):
        return False
    if len(thing) == 1:
        return is_one_of(thing[0], ALONE)
    if len(thing) == 2:
        return is_one_of(thing[0], ("lock",)) and is_one_of(thing[1], program.locks)
    if len(thing) == 3:
        return is_one_of(thing[0], ("block",)) and is_block_name(thing[1], thing[2])
    if len(thing) == 4:
        return is_one_of(thing[0], ("cell",)) and is_cell_name(thing[1], thing[2], thing[3])
    return False


def is_block_name(slot, life):
    """Whether two values are a slot and a life."""
    return is_number_in(slot, 0, SLOTS - 1) and is_number_in(life, 1, MOST_LIFE)


def is_cell_name(slot, life, offset):
    """Whether three values are a slot, a life and an offset."""
    return is_block_name(slot, life) and is_number_in(offset, 0, MOST_OFFSET)


def is_thread_of(program, thing):
    """Whether any value is the number of a thread."""
    return is_number_in(thing, 0, len(program.threads) - 1)


def is_local_of(program, word, thing):
    """Whether any value is (word, thread, depth, a word)."""
    if not is_tuple_of(thing, 4) or not is_one_of(thing[0], (word,)):
        return False
    return is_thread_of(program, thing[1]) and is_number_in(thing[2], 1, MOST_FRAMES) and is_word(thing[3])


def frame_at(moment, thread, depth):
    """The frame of this depth, None if there is none."""
    stack = moment.stacks[thread]
    return stack[depth - 1] if depth <= len(stack) else None


def value_in(moment, thread, depth, word):
    """The tuple of the value of a param or local; () if there is none."""
    frame = frame_at(moment, thread, depth)
    if frame is None or word not in moment.program.names.locals[frame[0]]:
        return ()
    place, _ = moment.program.names.locals[frame[0]][word]
    return (frame[2][place],)


def name_in(moment, thread, depth, word):
    """The pair (slot, life) of a block of a frame; None if there is none."""
    frame = frame_at(moment, thread, depth)
    if frame is None or word not in moment.program.names.blocks[frame[0]]:
        return None
    place, _ = moment.program.names.blocks[frame[0]][word]
    return frame[3][place]


def block_in(moment, slot, life):
    """The triple (how, sort, number of cells) of a block; None if it is not there."""
    if not is_there(moment.lives, slot, life):
        return None
    how, sort, cells = moment.memory[slot]
    return (how, sort, len(cells))


def cell_in(moment, slot, life, offset):
    """The tuple of the value in a cell; () if there is no such cell."""
    block = block_in(moment, slot, life)
    if block is None or offset >= block[2]:
        return ()
    return (moment.memory[slot][2][offset],)


def plain_cell(moment, cell):
    """What is told of a cell that is no ("cell", ..)."""
    word = cell[0]
    if word == "block":
        return block_in(moment, cell[1], cell[2])
    if word == "free":
        return moment.lives
    if word == "lock":
        return moment.held[moment.program.names.locks[cell[1]]]
    if word == "asked":
        return moment.asked
    return moment.given if word == "given" else moment.wrong


def cells_of(moment):
    """All cells of memory that are there, with their values, as triples lead to them."""
    found = {}
    for slot, (_, _, cells) in moment.memory.items():
        life = life_now(moment.lives, slot)
        for offset, value in enumerate(cells):
            found[(slot, life, offset)] = value
    return found


def locals_in(moment):
    """All params and locals with their values, by (thread, depth, word)."""
    found = {}
    for thread, stack in enumerate(moment.stacks):
        for below, frame in enumerate(stack):
            for word in moment.program.names.locals[frame[0]]:
                found[(thread, below + 1, word)] = value_in(moment, thread, below + 1, word)[0]
    return found
