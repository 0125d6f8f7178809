"""The flat machine: addresses in place of pointers, and a shadow that looks."""

from firstwrong.errors import BadFlat, BadMoment
from firstwrong.flatslots import FlatSlots
from firstwrong.kinds import is_number, is_tuple_of
from firstwrong.layouts import need_layout
from firstwrong.momentparts import SLOTS, Sure, life_now
from firstwrong.moments import Moment
from firstwrong.starts import first_parts, starts_of
from firstwrong.trees import need_program
from firstwrong.values import NULL


class Flat:
    """A flat machine in a run of a program; flat_begun and flat_step make it.

    cells, shadow, bases and there are those of FlatSlots; values of params and
    locals are numbers, or pointers as there.
    """

    def __init__(self, program, layout):
        self.program = program
        self.layout = layout
        self.lives = (0,) * SLOTS
        self.there = {}
        self.bases = {}
        self.cells = {}
        self.shadow = {}
        self.held = (None,) * len(program.locks)
        self.stacks = ()
        self.asked = 0
        self.given = ()
        self.wrong = None

    def take_memory(self, slots):
        """The memory that a step left is the machine's."""
        self.lives = tuple(slots.lives)
        self.there = slots.there
        self.bases = slots.bases
        self.cells = {address: slots.cells[address] for address in sorted(slots.cells)}
        self.shadow = slots.shadow


def need_flat(flat):
    """Refuses what is no Flat."""
    if not isinstance(flat, Flat):
        raise BadFlat("a flat machine is wanted")


def flat_begun(program, layout):
    """The machine at the beginning of each run."""
    need_program(program)
    need_layout(layout, "layout")
    flat = Flat(program, layout)
    slots = FlatSlots(flat)
    _, memory, _, stacks = first_parts(program, starts_of(program))
    for slot in memory:
        how, sort, cells = memory[slot]
        pointer = slots.first(slots.come(slot, how, sort, len(cells)))
        for offset in range(len(cells) if how == "shared" else 0):
            slots.write(slots.moved(pointer, offset), slots.null if isinstance(sort, tuple) else 0)
    flat.stacks = stacks
    flat.take_memory(slots)
    return flat


def moment_told(flat):
    """The moment that the machine stands for."""
    need_flat(flat)
    slots = FlatSlots(flat)
    memory = {}
    for slot in flat.there:
        how, sort = flat.there[slot]
        base, many = flat.bases[(slot, life_now(flat.lives, slot))]
        cells = [value_told(slots, slots.kept_at(base + offset)) for offset in range(many)]
        memory[slot] = (how, sort, tuple(cells))
    stacks = []
    for stack in flat.stacks:
        stacks.append(tuple([frame[:2] + (tuple([value_told(slots, value) for value in frame[2]]),) + frame[3:]
                             for frame in stack]))
    return Moment(flat.program, Sure(flat.lives), memory, flat.held, tuple(stacks), flat.asked, flat.given,
                  flat.wrong)


def value_told(slots, value):
    """What a number with its shadow stands for."""
    if not isinstance(value, tuple):
        return value
    name = slots.name(value)
    if name is None:
        return NULL
    return name + (slots.offset(value),)


def address_of(flat, pointer):
    """The address of a pointer whose block came in this run."""
    need_flat(flat)
    if not is_tuple_of(pointer, 3) or not all([is_number(part) for part in pointer]):
        raise BadMoment("pointer")
    if pointer == NULL:
        return 0
    if pointer[:2] not in flat.bases:
        raise BadMoment("pointer")
    base, many = flat.bases[pointer[:2]]
    if not 0 <= pointer[2] <= many:
        raise BadMoment("pointer")
    return base + pointer[2]


def taken_by(flat):
    """The triples (base, slot, life) of the blocks that are there, ascending."""
    need_flat(flat)
    names = [(slot, life_now(flat.lives, slot)) for slot in flat.there]
    return tuple(sorted([(flat.bases[name][0],) + name for name in names]))
