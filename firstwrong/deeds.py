"""The deeds of instructions, done with the values that were worked out."""

from firstwrong.doings import GoneWrong
from firstwrong.momentparts import MOST_FRAMES
from firstwrong.working import block_there, cell_at, name_read


def do_op(doing, op, parts):
    """The own op of an instruction, with the pairs (sort, value) of its expressions."""
    deed = DEEDS[op[0]]
    deed(doing, op, parts)


def do_let(doing, op, parts):
    """The local gets the value."""
    doing.put(op[1], parts[0][1])


def do_store(doing, op, parts):
    """The cell gets the value."""
    (sort, pointer), (_, value) = parts
    cell = cell_at(doing, sort, pointer)
    doing.slots.write(pointer, value)
    doing.writes.append(cell)


def come(doing, slot, how, sort, many):
    """A block comes into a free slot; its name."""
    name = doing.slots.come(slot, how, sort, many)
    doing.writes.append(("block",) + name)
    doing.writes.append(("free",))
    return name


def go(doing, name):
    """A block goes."""
    doing.slots.go(name[0])
    doing.writes.append(("block",) + name)
    doing.writes.append(("free",))


def do_make(doing, op, parts):
    """A block in the least free slot; null if there is none."""
    _, local, sort = op
    many = parts[0][1]
    if not 1 <= many <= 16:
        raise GoneWrong("great")
    doing.reads.append(("free",))
    free = doing.slots.free()
    if free == []:
        doing.put(local, doing.slots.null)
        return
    doing.put(local, doing.slots.first(come(doing, free[0], "made", sort, many)))


def do_away(doing, op, parts):
    """A made block goes; nothing is done with null."""
    pointer = parts[0][1]
    name = name_read(doing, pointer)
    if name is None:
        return
    block = block_there(doing, name)
    if block[0] != "made" or doing.slots.offset(pointer) != 0:
        raise GoneWrong("away")
    go(doing, name)


def do_ask(doing, op, parts):
    """The local gets the next input."""
    doing.reads.append(("asked",))
    doing.put(op[1], doing.inputs[doing.asked])
    doing.asked += 1
    doing.writes.append(("asked",))


def do_give(doing, op, parts):
    """The int is given."""
    doing.reads.append(("given",))
    doing.given = doing.given + (parts[0][1],)
    doing.writes.append(("given",))


def do_test(doing, op, parts):
    """Where it goes on is all that a test does, and that is done already."""
    return


def start_of(head):
    """The todo of a body; a head of a code has none, its position is 0."""
    if len(head) == 6:
        return head[5]
    return 0


def do_call(doing, op, parts):
    """A frame more, with its blocks in the least free slots."""
    _, target, word = op
    number = doing.names.functions[word]
    head = doing.names.heads[number]
    if len(doing.stack) == MOST_FRAMES:
        raise GoneWrong("deep")
    free = []
    if head[3] != ():
        doing.reads.append(("free",))
        free = doing.slots.free()
        if len(free) < len(head[3]):
            raise GoneWrong("deep")
    names = []
    for slot, (_, sort, many) in zip(free, head[3]):
        names.append(come(doing, slot, "local", sort, many))
    values = tuple([value for _, value in parts]) + (None,) * len(head[2])
    doing.stack.append((number, start_of(head), values, tuple(names), target))


def end_frame(doing, value):
    """The frame on top goes, and its blocks; the target gets the value."""
    _, _, _, names, target = doing.stack.pop()
    for name in names:
        go(doing, name)
    if doing.stack != []:
        doing.put(target, value)


def do_return(doing, op, parts):
    """The frame ends with the value, if there is one."""
    end_frame(doing, parts[0][1] if parts != [] else None)


def do_take(doing, op, parts):
    """The lock is held by the thread, which must not hold it."""
    lock = look_at_lock(doing, op[1])
    if doing.held[lock] == doing.thread:
        raise GoneWrong("lock")
    doing.held[lock] = doing.thread
    doing.writes.append(("lock", op[1]))


def do_leave(doing, op, parts):
    """The lock is free; the thread must hold it."""
    lock = look_at_lock(doing, op[1])
    if doing.held[lock] != doing.thread:
        raise GoneWrong("lock")
    doing.held[lock] = None
    doing.writes.append(("lock", op[1]))


def look_at_lock(doing, word):
    """The lock's number; it is read."""
    doing.reads.append(("lock", word))
    return doing.names.locks[word]


DEEDS = {"let": do_let, "store": do_store, "make": do_make, "away": do_away, "ask": do_ask,
         "give": do_give, "test": do_test, "call": do_call, "return": do_return, "take": do_take,
         "leave": do_leave}
