"""Flat memory, as a step changes it: one row of cells, and a shadow beside it."""

from firstwrong.layouts import next_base
from firstwrong.momentparts import is_there, life_now
from firstwrong.slots import free_slots


class FlatSlots:
    """Blocks at addresses.

    A pointer is a triple (address, slot, life): its number, and the name beside
    it by which each look is done. cells has a number for each address ever
    taken; shadow has, for those that are set, the name that a pointer was made
    for (None for null), True for other numbers. bases has (base, number of
    cells) of each block that ever came, there tells by slots what blocks are
    there.
    """

    def __init__(self, flat):
        self.layout = flat.layout
        self.lives = list(flat.lives)
        self.there = dict(flat.there)
        self.bases = {name: flat.bases[name] for name in flat.bases}
        self.cells = dict(flat.cells)
        self.shadow = dict(flat.shadow)
        self.null = (0, 0, 0)

    def name(self, pointer):
        """The block's (slot, life), None for null."""
        if pointer[0] == 0:
            return None
        return pointer[1:]

    def offset(self, pointer):
        """How many cells it is behind the block's base."""
        return pointer[0] - self.bases[pointer[1:]][0]

    def first(self, name):
        """The pointer to a block's first cell."""
        return (self.bases[name][0],) + name

    def moved(self, pointer, by):
        """The pointer so many cells on."""
        return (pointer[0] + by,) + pointer[1:]

    def block(self, name):
        """(how, sort, number of cells) of a block, None if it is not there."""
        if not is_there(self.lives, name[0], name[1]):
            return None
        how, sort = self.there[name[0]]
        return (how, sort, self.bases[name][1])

    def read(self, pointer):
        """What the address holds, None if it is unset."""
        return self.kept_at(pointer[0])

    def kept_at(self, address):
        """What an address holds, with its name if it is a pointer; None if it is unset."""
        if address not in self.shadow:
            return None
        mark = self.shadow[address]
        if mark is True:
            return self.cells[address]
        if mark is None:
            return self.null
        return (self.cells[address],) + mark

    def write(self, pointer, value):
        """The address gets the value, the shadow its name."""
        address = pointer[0]
        if isinstance(value, tuple):
            self.cells[address] = value[0]
            self.shadow[address] = self.name(value)
        else:
            self.cells[address] = value
            self.shadow[address] = True

    def free(self):
        """The slots that can be taken, ascending."""
        return free_slots(self.lives)

    def fill_all(self, base, many):
        """All that a block takes becomes fill."""
        for address in range(base, base + many + 1):
            self.cells[address] = self.layout[0]
            if address in self.shadow:
                del self.shadow[address]

    def come(self, slot, how, sort, many):
        """A block of unset cells in a free slot; its name."""
        base = next_base(self.layout[1], len(self.bases), self.taken(), max(self.cells, default=0), many)
        self.lives[slot] += 1
        name = (slot, life_now(self.lives, slot))
        self.there[slot] = (how, sort)
        self.bases[name] = (base, many)
        self.fill_all(base, many)
        return name

    def taken(self):
        """(base, number of cells) of each block that is there."""
        return [self.bases[(slot, life_now(self.lives, slot))] for slot in self.there]

    def go(self, slot):
        """The block in the slot is gone."""
        base, many = self.bases[(slot, life_now(self.lives, slot))]
        self.lives[slot] += 1
        del self.there[slot]
        self.fill_all(base, many)
