"""Steps of threads, and whole runs."""

from firstwrong.doings import Doing, stacks_behind
from firstwrong.errors import BadMoment
from firstwrong.kinds import is_number_in, is_tuple_of
from firstwrong.momentparts import SLOTS, Sure
from firstwrong.moments import Moment, need_moment
from firstwrong.slots import Slots
from firstwrong.treesteps import do_todo, todo_op
from firstwrong.turns import need_inputs, need_thread, need_weaving, refuse, why_not


def can_step(moment, thread):
    """Whether a thread can step."""
    need_moment(moment)
    need_thread(moment.program, thread)
    return why_not(moment.program.names, moment, thread, todo_op) is None


def stepped(moment, thread, inputs):
    """The moment behind one step of a thread, and the step's trace."""
    need_moment(moment)
    need_thread(moment.program, thread)
    need_inputs(inputs)
    return step_of(moment, thread, inputs)


def step_of(moment, thread, inputs):
    """The same for what surely is a moment, a thread, inputs."""
    program = moment.program
    refuse(program.names, moment, thread, inputs, todo_op)
    slots = Slots(moment.lives, moment.memory)
    doing = Doing(program.names, slots, moment, thread, inputs)
    wrong = do_todo(doing)
    after = moment_behind(moment, doing) if wrong is None else wrong_behind(moment, (thread, wrong))
    return (after, doing.trace(wrong) + (back_of(moment, after, thread),))


def moment_behind(moment, doing):
    """The moment that a step leaves."""
    stacks = stacks_behind(moment, doing)
    return Moment(moment.program, Sure(doing.slots.lives), doing.slots.memory, tuple(doing.held),
                  stacks, doing.asked, doing.given, None)


def wrong_behind(moment, wrong):
    """The same moment, but for what is wrong now."""
    return Moment(moment.program, Sure(moment.lives), moment.memory, moment.held, moment.stacks,
                  moment.asked, moment.given, wrong)


def back_of(moment, after, thread):
    """What leads back: the thread and its stack, slots that changed with what
    they held, the locks, what was asked, how many ints were given."""
    changed = []
    for slot in range(SLOTS):
        block = moment.memory.get(slot)
        if moment.lives[slot] != after.lives[slot] or block != after.memory.get(slot):
            changed.append((slot, moment.lives[slot], block))
    return (thread, moment.stacks[thread], tuple(changed), moment.held, moment.asked, len(moment.given))


def undone(moment, back):
    """The moment ahead of the step that told this back."""
    need_moment(moment)
    if not is_back(moment, back):
        raise BadMoment("back")
    thread, stack, changed, held, asked, many = back
    lives = list(moment.lives)
    memory = dict(moment.memory)
    for slot, number, block in changed:
        lives[slot] = number
        memory[slot] = block
    memory = {slot: memory[slot] for slot in memory if memory[slot] is not None}
    stacks = moment.stacks[:thread] + (stack,) + moment.stacks[thread + 1:]
    try:
        return Moment(moment.program, lives, memory, held, stacks, asked, moment.given[:many], None)
    except BadMoment:
        raise BadMoment("back") from None


def is_back(moment, back):
    """Whether this has the form of what leads back; Moment judges the rest."""
    if not is_tuple_of(back, 6):
        return False
    thread, _, changed, _, _, many = back
    if not is_number_in(thread, 0, len(moment.program.threads) - 1):
        return False
    if not isinstance(changed, tuple) or not is_number_in(many, 0, len(moment.given)):
        return False
    return all([is_tuple_of(row, 3) and is_number_in(row[0], 0, SLOTS - 1) for row in changed])


def run(moment, inputs, weaving):
    """All moments of a run, the first one among them, and all traces."""
    need_run(moment, inputs, weaving)
    moments = [moment]
    traces = []
    for thread in weaving:
        moment, trace = step_of(moment, thread, inputs)
        moments.append(moment)
        traces.append(trace)
    return (moments, traces)


def need_run(moment, inputs, weaving):
    """Refuses what no run can be told by."""
    need_moment(moment)
    need_inputs(inputs)
    need_weaving(moment.program, weaving)


def first_wrong(moment, inputs, weaving):
    """None, or (place, thread, word) of the first step that goes wrong."""
    need_run(moment, inputs, weaving)
    for place, thread in enumerate(weaving):
        moment, _ = step_of(moment, thread, inputs)
        if moment.wrong is not None:
            return (place,) + moment.wrong
    return None


def is_clean(moment, inputs, weaving):
    """Whether no step goes wrong."""
    return first_wrong(moment, inputs, weaving) is None
