"""Steps of threads over the lines of a code, and whole runs of it."""

from firstwrong.bodies import LEAVES, WANTED
from firstwrong.codemoments import CodeMoment, need_code_moment
from firstwrong.codeops import is_check
from firstwrong.deeds import do_op, end_frame
from firstwrong.doings import Doing, GoneWrong, stacks_behind
from firstwrong.errors import Lost
from firstwrong.momentparts import Sure
from firstwrong.slots import Slots
from firstwrong.turns import END, need_inputs, need_thread, need_weaving, refuse, why_not
from firstwrong.working import leaf, made, settles, truth


def line_at(code, frame):
    """The line at a frame's position, None at the end."""
    rows = code.lines[frame[0]]
    return rows[frame[1]] if frame[1] < len(rows) else None


def line_op(moment, thread):
    """The own op of what a thread does next."""
    line = line_at(moment.code, moment.stacks[thread][-1])
    return END if line is None else line[0][-1]


def code_can_step(moment, thread):
    """Whether a thread can step."""
    need_code_moment(moment)
    need_thread(moment.code, thread)
    return why_not(moment.code.names, moment, thread, line_op) is None


def code_stepped(moment, thread, inputs):
    """The code moment behind one step of a thread, and what it reads and writes."""
    need_code_moment(moment)
    need_thread(moment.code, thread)
    need_inputs(inputs)
    return code_step_of(moment, thread, inputs)


def code_step_of(moment, thread, inputs):
    """The same for what surely is a code moment, a thread, inputs."""
    code = moment.code
    refuse(code.names, moment, thread, inputs, line_op)
    doing = Doing(code.names, Slots(moment.lives, moment.memory), moment, thread, inputs)
    wrong = do_line(doing, line_at(code, doing.stack[-1]))
    if wrong is None:
        after = CodeMoment(code, Sure(doing.slots.lives), doing.slots.memory, tuple(doing.held),
                           stacks_behind(moment, doing), doing.asked, doing.given, None)
    else:
        after = CodeMoment(code, Sure(moment.lives), moment.memory, moment.held, moment.stacks,
                           moment.asked, moment.given, (thread, wrong))
    return (after, doing.trace(wrong))


def do_line(doing, line):
    """The ops of a line, one after another; the wrong word, or None."""
    if line is None:
        end_frame(doing, None)
        return None
    ops, goals = line
    pile = []
    place = 0
    while place < len(ops):
        try:
            place = do_one(doing, ops, place, pile, goals)
        except GoneWrong as wrong:
            return checked(ops, place, wrong.word)
    return None


def do_one(doing, ops, place, pile, goals):
    """One op; the place of the next one."""
    op = ops[place]
    word = op[0]
    if place == len(ops) - 1:
        go_on(doing, op, pile, goals)
    elif word in LEAVES:
        pile.append(leaf(doing, op))
    elif word in ("and", "or"):
        if settles(word, pile[-1][1]):
            return place + op[1] + 1
        pile.pop()
    elif word == "truth":
        pile.append(truth(pile.pop()[1]))
    elif not is_check(op):
        at = len(pile) - len(WANTED[word])
        parts = pile[at:]
        del pile[at:]
        pile.append(made(doing, word, parts))
    return place + 1


def go_on(doing, op, parts, goals):
    """The own op of the instruction, and on to its goal."""
    if op[0] == "test":
        doing.go_to(goals[0] if parts[0][1] != 0 else goals[1])
    elif goals != ():
        doing.go_to(goals[0])
    do_op(doing, op, parts)


def checked(ops, place, word):
    """The wrong word of an op, which one of its checks must tell.

    "unset" is checked behind an op, all else in the checks right ahead of it.
    """
    check = ("check", word)
    if word == "unset":
        if ops[place + 1] == check:
            return word
        raise Lost(word)
    while place > 0 and is_check(ops[place - 1]):
        place -= 1
        if ops[place] == check:
            return word
    raise Lost(word)


def code_run(moment, inputs, weaving):
    """All code moments of a run, the first one among them, and what each step reads and writes."""
    need_code_moment(moment)
    need_inputs(inputs)
    need_weaving(moment.code, weaving)
    moments = [moment]
    traces = []
    for thread in weaving:
        moment, trace = code_step_of(moment, thread, inputs)
        moments.append(moment)
        traces.append(trace)
    return (moments, traces)
