"""Moments as rows of bytes."""

from firstwrong.errors import BadBytes, BadMoment, TooMany
from firstwrong.kinds import is_byte_row
from firstwrong.momentparts import LAST_LIFE, MOST_FRAMES, SLOTS, WRONG_WORDS
from firstwrong.moments import Moment, need_moment
from firstwrong.rowreader import RowReader
from firstwrong.rows import low_bytes
from firstwrong.trees import need_program
from firstwrong.values import CELL_SORTS, NULL, is_pointer

HOWS = ("shared", "local", "made")
MOST = 2 ** 32 - 1
POINTER_BYTES = 6


def words_of(program):
    """The ascending list of all words of params and locals."""
    return sorted(set([word for table in program.names.locals for word in table]))


def value_bytes(sort, value):
    """A value as bytes."""
    if sort == "byte":
        return (value,)
    if sort == "int":
        return low_bytes(value, 4)
    slot, life, offset = value
    return (slot,) + low_bytes(life, 4) + (offset,)


def place_bytes(sort, value):
    """What may be unset as bytes."""
    if value is None:
        return (0,)
    return (1,) + value_bytes(sort, value)


def moment_bytes(moment):
    """A moment as bytes."""
    need_moment(moment)
    if moment.asked > MOST or len(moment.given) > MOST:
        raise TooMany(MOST)
    found = []
    for number in moment.lives:
        found.extend(low_bytes(number, 4))
    for block in moment.memory.values():
        found.extend(block_bytes(block))
    for thread in moment.held:
        found.append(0 if thread is None else thread + 1)
    words = words_of(moment.program)
    for stack in moment.stacks:
        found.append(len(stack))
        for frame in stack:
            found.extend(frame_bytes(moment.program, words, frame))
    found.extend(low_bytes(moment.asked, 4))
    found.extend(low_bytes(len(moment.given), 4))
    for number in moment.given:
        found.extend(low_bytes(number, 4))
    found.append(0 if moment.wrong is None else wrong_byte(moment.wrong))
    return tuple(found)


def wrong_byte(wrong):
    """A thread and a wrong word as a number from 1 on."""
    return 1 + len(WRONG_WORDS) * wrong[0] + WRONG_WORDS.index(wrong[1])


def block_bytes(block):
    """A block as bytes; a shared one is known by the program."""
    how, sort, cells = block
    found = [HOWS.index(how)]
    if how != "shared":
        found.extend([CELL_SORTS.index(sort), len(cells)])
    for cell in cells:
        found.extend(place_bytes(sort, cell))
    return found


def frame_bytes(program, words, frame):
    """A frame as bytes."""
    function, todo, values, names, target = frame
    found = [function]
    found.extend(low_bytes(program.todos[function].index(todo), 2))
    head = program.functions[function]
    for (_, sort), value in zip(head[1] + head[2], values):
        found.extend(place_bytes(sort, value))
    for slot, life in names:
        found.append(slot)
        found.extend(low_bytes(life, 4))
    found.append(0 if target == "" else 1 + words.index(target))
    return found


def moment_of_bytes(program, thing):
    """The moment of a program that has these bytes."""
    need_program(program)
    if not is_byte_row(thing):
        raise BadBytes(None)
    reader = RowReader(thing)
    lives = [reader.read_number(4, LAST_LIFE) for _ in range(SLOTS)]
    memory = {slot: block_read(program, reader, slot) for slot in range(SLOTS) if lives[slot] & 1}
    threads = len(program.threads)
    held = [reader.read_number(1, threads) for _ in program.locks]
    words = words_of(program)
    stacks = tuple([stack_read(program, words, reader) for _ in program.threads])
    asked = reader.read_number(4, MOST)
    given = tuple([reader.read_int() for _ in range(reader.read_number(4, MOST))])
    wrong = reader.read_number(1, len(WRONG_WORDS) * threads)
    reader.end()
    try:
        return Moment(program, lives, memory, tuple([thread - 1 if thread > 0 else None for thread in held]),
                      stacks, asked, given, wrong_told(wrong))
    except BadMoment:
        raise BadBytes(len(thing)) from None


def wrong_told(number):
    """The thread and the word of a number, None for 0."""
    if number == 0:
        return None
    thread, place = divmod(number - 1, len(WRONG_WORDS))
    return (thread, WRONG_WORDS[place])


def value_read(reader, sort):
    """A value of a sort."""
    if sort == "int":
        return reader.read_int()
    if sort == "byte":
        return reader.read_number(1, 255)
    at = reader.place
    if at + POINTER_BYTES > len(reader.row):
        raise BadBytes(at)
    pointer = (reader.read_number(1, 255), reader.read_number(4, MOST), reader.read_number(1, 255))
    if pointer != NULL and not is_pointer(pointer):
        raise BadBytes(at)
    return pointer


def place_read(reader, sort):
    """A value, or None for what is unset."""
    if reader.read_number(1, 1) == 0:
        return None
    return value_read(reader, sort)


def block_read(program, reader, slot):
    """The block of a slot; the first slots have the program's shared ones."""
    if slot < len(program.shared):
        reader.read_number(1, 0)
        _, sort, many = program.shared[slot]
        how = "shared"
    else:
        how = HOWS[reader.read_number(1, 2, 1)]
        sort = CELL_SORTS[reader.read_number(1, len(CELL_SORTS) - 1)]
        many = reader.read_number(1, 16, 1)
    return (how, sort, tuple([place_read(reader, sort) for _ in range(many)]))


def stack_read(program, words, reader):
    """The stack of a thread."""
    return tuple([frame_read(program, words, reader) for _ in range(reader.read_number(1, MOST_FRAMES))])


def frame_read(program, words, reader):
    """A frame."""
    function = reader.read_number(1, len(program.functions) - 1)
    todos = program.todos[function]
    todo = todos[reader.read_number(2, len(todos) - 1)]
    head = program.functions[function]
    values = tuple([place_read(reader, sort) for _, sort in head[1] + head[2]])
    names = tuple([(reader.read_number(1, SLOTS - 1), reader.read_number(4, 2 ** 30, 1)) for _ in head[3]])
    target = reader.read_number(1, len(words))
    return (function, todo, values, names, words[target - 1] if target > 0 else "")
