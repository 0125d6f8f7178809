"""Causes along a plain run: of which sources each value hangs.

Causes are dicts from sources to True; none of them is ever changed.
"""

from firstwrong.momentparts import SLOTS
from firstwrong.slots import free_slots
from firstwrong.spots import cells_of, locals_in
from firstwrong.stepviews import LOOKING, pointers_of


def joined(rows):
    """Some causes together."""
    return {source: True for causes in rows for source in causes}


class Flow:
    """The causes at a moment.

    cells are known by (slot, life, offset), locals and blocks (the names of a
    frame's blocks) by (thread, depth, word), shapes by slots, locks by words;
    ints are those given, count tells how many they are.
    """

    def __init__(self, moment):
        self.cells = {cell: {("cell",) + cell: True} for cell in cells_of(moment)}
        self.locals = {local: {("local",) + local: True} for local in locals_in(moment)}
        self.blocks = {}
        for thread, stack in enumerate(moment.stacks):
            for below, frame in enumerate(stack):
                for block in moment.program.functions[frame[0]][3]:
                    self.blocks[(thread, below + 1, block[0])] = {}
        self.shapes = [{} for _ in range(SLOTS)]
        self.locks = {word: {} for word in moment.program.locks}
        self.asked = {}
        self.count = {}
        self.ints = [{} for _ in moment.given]

    def shapes_to(self, slot):
        """The shape causes of the first slots up to this one, together."""
        return joined(self.shapes[:slot + 1])

    def of_worked(self, thread, depth, found):
        """The causes of what was worked out for the frame of this depth."""
        rows = []
        for expression, parts, _ in found:
            word = expression[0]
            if word == "local":
                rows.append(self.locals[(thread, depth, expression[1])])
            elif word == "block":
                rows.append(self.blocks[(thread, depth, expression[1])])
            elif word in LOOKING:
                pointers = pointers_of(parts)
                rows.extend([self.shapes[pointer[0]] for pointer in pointers])
                if word == "at":
                    rows.extend([self.cells.get(pointer, {}) for pointer in pointers])
        return joined(rows)

    def pass_step(self, view, after):
        """What the step that a view tells does to causes; after is the moment behind it."""
        told = [self.of_worked(view.thread, view.depth, found) for found in view.rows]
        word = view.next_word()
        if word in PASSED:
            deed = PASSED[word]
            deed(self, view, told)
        # What came has no causes yet, what went has none any more.
        self.cells = {cell: self.cells.get(cell, {}) for cell in cells_of(after)}

    def gain(self, slot, causes):
        """A slot's shape gains causes."""
        self.shapes[slot] = joined([self.shapes[slot], causes])

    def come_to_slots(self, moment):
        """A block comes: each slot that can be taken gains the shapes to it."""
        ahead = [self.shapes_to(slot) for slot in range(SLOTS)]
        for slot in free_slots(moment.lives):
            self.gain(slot, ahead[slot])


def pass_let(flow, view, told):
    """The local has the causes of the value."""
    flow.locals[(view.thread, view.depth, view.does[1])] = told[0]


def pass_store(flow, view, told):
    """The cell has the causes of both; cells that it might have been gain the pointer's."""
    moment = view.moment
    written = view.got[0][1]
    sort = moment.memory[written[0]][1]
    for cell in cells_of(moment):
        if moment.memory[cell[0]][1] == sort:
            flow.cells[cell] = joined([flow.cells[cell], told[0]])
    flow.cells[written] = joined(told)


def pass_make(flow, view, told):
    """The local and the slots hang on which slots can be taken."""
    free = free_slots(view.moment.lives)
    taken = free[0] if free != [] else SLOTS - 1
    flow.locals[(view.thread, view.depth, view.does[1])] = flow.shapes_to(taken)
    flow.come_to_slots(view.moment)
    if free != []:
        flow.gain(taken, told[0])


def pass_away(flow, view, told):
    """Each block but the shared ones might have gone."""
    for slot in range(len(view.moment.program.shared), SLOTS):
        flow.gain(slot, told[0])


def pass_ask(flow, view, told):
    """The local has the input, and which one it is."""
    number = view.moment.asked
    local = (view.thread, view.depth, view.does[1])
    flow.locals[local] = joined([{("input", number): True}, flow.asked])


def pass_give(flow, view, told):
    """One int more."""
    flow.ints.append(joined([told[0], flow.count]))


def pass_call(flow, view, told):
    """A frame more."""
    program = view.moment.program
    head = program.functions[program.names.functions[view.does[2]]]
    above = (view.thread, view.depth + 1)
    for (word, _), causes in zip(head[1], told):
        flow.locals[above + (word,)] = causes
    for word, _ in head[2]:
        flow.locals[above + (word,)] = {}
    for (word, _, _), slot in zip(head[3], free_slots(view.moment.lives)):
        flow.blocks[above + (word,)] = flow.shapes_to(slot)
    if head[3] != ():
        flow.come_to_slots(view.moment)


def pass_return(flow, view, told):
    """The frame goes; the target has the causes of the value, none without one."""
    here = (view.thread, view.depth)
    for word, _ in view.head[1] + view.head[2]:
        del flow.locals[here + (word,)]
    for block in view.head[3]:
        del flow.blocks[here + (block[0],)]
    if view.frame[4] != "":
        flow.locals[(view.thread, view.depth - 1, view.frame[4])] = joined(told)


def pass_lock(flow, view, told):
    """Whoever takes or leaves it: the step tells it."""
    flow.locks[view.does[1]] = {}


PASSED = {"let": pass_let, "store": pass_store, "make": pass_make, "away": pass_away, "ask": pass_ask,
          "give": pass_give, "call": pass_call, "return": pass_return, "take": pass_lock, "leave": pass_lock}
