"""Memory by slots, as a step changes it: what moments and code moments hold."""

from firstwrong.momentparts import LAST_LIFE, SLOTS, is_there, life_now
from firstwrong.values import NULL


class Slots:
    """Blocks in slots; pointers are triples (slot, life, offset)."""

    def __init__(self, lives, memory):
        self.lives = list(lives)
        self.memory = dict(memory)
        self.null = NULL

    def name(self, pointer):
        """The block's (slot, life), None for null."""
        if pointer == NULL:
            return None
        return pointer[:2]

    def offset(self, pointer):
        """How many cells it is behind the block's first one."""
        return pointer[2]

    def first(self, name):
        """The pointer to a block's first cell."""
        return name + (0,)

    def moved(self, pointer, by):
        """The pointer so many cells on."""
        return pointer[:2] + (pointer[2] + by,)

    def block(self, name):
        """(how, sort, number of cells) of a block, None if it is not there."""
        if not is_there(self.lives, name[0], name[1]):
            return None
        how, sort, cells = self.memory[name[0]]
        return (how, sort, len(cells))

    def read(self, pointer):
        """The value in the cell, None if it is unset."""
        return self.memory[pointer[0]][2][pointer[2]]

    def write(self, pointer, value):
        """The cell gets the value."""
        how, sort, cells = self.memory[pointer[0]]
        at = pointer[2]
        self.memory[pointer[0]] = (how, sort, cells[:at] + (value,) + cells[at + 1:])

    def free(self):
        """The slots that can be taken, ascending."""
        return free_slots(self.lives)

    def come(self, slot, how, sort, many):
        """A block of unset cells in a free slot; its name."""
        self.lives[slot] += 1
        self.memory[slot] = (how, sort, (None,) * many)
        return (slot, life_now(self.lives, slot))

    def go(self, slot):
        """The block in the slot is gone."""
        self.lives[slot] += 1
        del self.memory[slot]


def free_slots(lives):
    """The slots that can be taken, ascending."""
    return [slot for slot in range(SLOTS) if lives[slot] & 1 == 0 and lives[slot] < LAST_LIFE]
