"""Runs akin to a run, for the tests: what they start from exchanged in a source; and all sights of moments."""

from firstwrong.errors import BadInputs, NotNow
from firstwrong.moments import Moment
from firstwrong.steps import run


def other_value(dice, sort, old, moment):
    """Another value of a sort, or none."""
    for _ in range(20):
        if dice.random() < 0.1:
            value = None
        elif sort == "int":
            value = dice.choice((0, 1, 2, 3, -1, 5, 100))
        elif sort == "byte":
            value = dice.choice((0, 1, 2, 255))
        else:
            value = dice.choice([(0, 0, 0)] + [(slot, (moment.lives[slot] + 1) // 2, offset) for slot in moment.memory
                                               if moment.memory[slot][1] == sort[1] for offset in range(2)])
        if value != old:
            return value
    return old


def exchanged(dice, moment, inputs, source):
    """The start and the inputs with another value in one source."""
    if source[0] == "input":
        new = list(inputs)
        new[source[1]] = dice.choice((0, 1, 2, 3, -3, 5))
        return moment, new
    made = moment.program
    memory, stacks = dict(moment.memory), moment.stacks
    if source[0] == "cell":
        _, slot, _, offset = source
        how, sort, cells = memory[slot]
        value = other_value(dice, sort, cells[offset], moment)
        memory[slot] = (how, sort, cells[:offset] + (value,) + cells[offset + 1:])
    else:
        _, thread, depth, word = source
        stack = stacks[thread]
        frame = stack[depth - 1]
        place, sort = made.names.locals[frame[0]][word]
        values = frame[2][:place] + (other_value(dice, sort, frame[2][place], moment),) + frame[2][place + 1:]
        frame = frame[:2] + (values,) + frame[3:]
        stacks = stacks[:thread] + (stack[:depth - 1] + (frame,) + stack[depth:],) + stacks[thread + 1:]
    return Moment(made, moment.lives, memory, moment.held, stacks, moment.asked, moment.given, moment.wrong), inputs


def moments_of(moment, inputs, weaving):
    """The moments of a run, None if it cannot be done."""
    try:
        return run(moment, inputs, weaving)[0]
    except (NotNow, BadInputs):
        return None


def all_sights(moments):
    """The sights at which something was at one of these moments."""
    found = {("free",), ("asked",), ("given",), ("wrong",)}
    for moment in moments:
        for slot, block in moment.memory.items():
            life = (moment.lives[slot] + 1) // 2
            found.add(("block", slot, life))
            found |= {("cell", slot, life, offset) for offset in range(len(block[2]))}
        for thread, stack in enumerate(moment.stacks):
            found.add(("way", thread))
            for below, frame in enumerate(stack):
                head = moment.program.functions[frame[0]]
                found |= {("local", thread, below + 1, word) for word, _ in head[1] + head[2]}
                found |= {("name", thread, below + 1, word) for word, _, _ in head[3]}
        found |= {("lock", word) for word in moment.program.locks}
        found |= {("given", number) for number in range(len(moment.given) + 1)}
    return sorted(found)
