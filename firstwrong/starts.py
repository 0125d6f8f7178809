"""How a run begins: the shared blocks, and one frame for each thread."""

from firstwrong.momentparts import SLOTS
from firstwrong.values import nought


def starts_of(program):
    """For each thread the body of its function."""
    return [program.functions[program.names.functions[word]][5] for word in program.threads]


def first_parts(whole, starts):
    """lives, memory, held and stacks of the first moment of a program or code.

    starts tells for each thread what its function has to do.
    """
    lives = [0] * SLOTS
    memory = {}
    for _, sort, many in whole.shared:
        memory[len(memory)] = ("shared", sort, (nought(sort),) * many)
    stacks = []
    for word, start in zip(whole.threads, starts):
        number = whole.names.functions[word]
        head = whole.functions[number]
        names = []
        for _, sort, many in head[3]:
            names.append((len(memory), 1))
            memory[len(memory)] = ("local", sort, (None,) * many)
        stacks.append(((number, start, (None,) * len(head[2]), tuple(names), ""),))
    for slot in memory:
        lives[slot] = 1
    return lives, memory, (None,) * len(whole.locks), tuple(stacks)
