"""Ghosts: ways that a thread might have gone if a source had been otherwise."""

from firstwrong.errors import TooMany
from firstwrong.flows import joined
from firstwrong.momentparts import MOST_FRAMES, SLOTS
from firstwrong.parts import add_expression, behind
from firstwrong.sights import way_of
from firstwrong.slots import free_slots
from firstwrong.stepviews import view_of, work
from firstwrong.values import NULL

MOST_GHOSTS = 64


class Ghosts:
    """For each thread the sources that lead it astray, with the other ways of each."""

    def __init__(self, moment):
        self.astray = [{} for _ in moment.stacks]

    def pass_step(self, flow, view, after):
        """Goes one step on, and tells the causes behind it."""
        thread = view.thread
        own = way_of(view.moment.stacks[thread])
        ahead = self.astray[thread]
        writes = {}
        further = {}
        for source in ahead:
            writes[source] = own_writes(view)
            further[source] = []
            for way in ahead[source]:
                writes[source].extend(may_write(flow, view, way))
                further[source].extend(ways_on(flow, view, way))
        for source in turning(flow, view):
            further.setdefault(source, []).append(other_way(view, own))
        flow.pass_step(view, after)
        for source in writes:
            gain_all(flow, view, after, source, writes[source])
        self.take_ways(thread, way_of(after.stacks[thread]), further)

    def take_ways(self, thread, own, further):
        """Each way is kept once, the thread's own one not among the others."""
        astray = {}
        for source in further:
            others = []
            for way in further[source]:
                if way != own and way not in others:
                    others.append(way)
            if len(others) + 1 > MOST_GHOSTS:
                raise TooMany(MOST_GHOSTS)
            if others != []:
                astray[source] = others
        self.astray[thread] = astray


def turning(flow, view):
    """The sources on which the step's "if" or "while" hangs."""
    if view.next_word() not in ("if", "while"):
        return []
    return list(flow.of_worked(view.thread, view.depth, view.rows[0]))


def other_way(view, own):
    """The way that the thread does not go from its "if" or "while"."""
    function, todo, target = own[-1]
    goals = behind(todo)
    goal = goals[1] if view.got[0][1] != 0 else goals[0]
    return own[:-1] + ((function, goal, target),)


def known(flow, view, way, expression):
    """What an expression is worked out to for a ghost; None if it is not known."""
    depth = len(way)
    stack = view.moment.stacks[view.thread][:depth]
    if len(stack) < depth or stack[-1][0] != way[-1][0]:
        if needs_frame(expression):
            return None
    found = []
    value = work(view_of(view.moment, stack), found, expression)
    return value if flow.of_worked(view.thread, depth, found) == {} else None


def needs_frame(expression):
    """Whether a local or block stands anywhere in an expression."""
    found = []
    add_expression(found, (), expression)
    return any([piece[0] in ("local", "block") for _, piece in found])


def ways_on(flow, view, way):
    """The ways on which a ghost goes by its next statement."""
    if way == ():
        return []
    function, todo, target = way[-1]
    below = way[:-1]
    if todo == () or todo[0][0] == "return":
        return [below]
    first = todo[0]
    if first[0] in ("if", "while"):
        goals = behind(todo)
        value = known(flow, view, way, first[1])
        if value is not None:
            goals = goals[:1] if value[1] != 0 else goals[1:]
        return [below + ((function, goal, target),) for goal in goals]
    passed = below + ((function, todo[1:], target),)
    if first[0] != "call":
        return [passed]
    if len(way) == MOST_FRAMES:
        return []
    program = view.moment.program
    number = program.names.functions[first[2]]
    return [passed + ((number, program.functions[number][5], first[1]),)]


def own_writes(view):
    """What the thread's own next statement may write, as may_write tells it."""
    if view.next_word() == "store":
        return [("cell", view.got[0][1])]
    return writes_of_todo(view.moment, view.frame[1], view.frame[0], view.frame[4], view.depth)


def may_write(flow, view, way):
    """What the next statement of a ghost may write: pairs of a word and what is told of it."""
    if way == ():
        return []
    function, todo, target = way[-1]
    if todo != () and todo[0][0] == "store":
        pointer = known(flow, view, way, todo[0][1])
        if pointer is None:
            return [("cells", None)]
        return [("cell", pointer[1])] if pointer[1] != NULL else []
    return writes_of_todo(view.moment, todo, function, target, len(way))


def writes_of_todo(moment, todo, function, target, depth):
    """The same for all statements but "store"."""
    program = moment.program
    word = todo[0][0] if todo != () else "return"
    found = []
    if word == "return":
        if program.functions[function][3] != ():
            found.append(("slots", [slot for slot in moment.memory if moment.memory[slot][0] == "local"]))
        found.append(("local", (depth - 1, target)))
    elif word in ("let", "ask", "make"):
        found.append(("local", (depth, todo[0][1])))
    elif word == "call":
        found.append(("frame", depth + 1))
    elif word == "away":
        found.append(("slots", list(range(len(program.shared), SLOTS))))
    elif word in ("take", "leave"):
        found.append(("lock", todo[0][1]))
    if word in ("ask", "give"):
        found.append((word, None))
    if word == "make" or (word == "call" and has_blocks(program, todo[0][2])):
        found.append(("slots", free_slots(moment.lives)))
    return found


def has_blocks(program, word):
    """Whether a function has blocks."""
    return program.functions[program.names.functions[word]][3] != ()


def gain_all(flow, view, after, source, writes):
    """All that may be written gains the source."""
    one = {source: True}
    for word, told in writes:
        if word == "slots":
            for slot in told:
                flow.gain(slot, one)
        elif word == "lock":
            flow.locks[told] = joined([flow.locks[told], one])
        elif word == "ask":
            flow.asked = joined([flow.asked, one])
        elif word == "give":
            flow.count = joined([flow.count, one])
            for number in range(len(view.moment.given), len(after.given)):
                flow.ints[number] = joined([flow.ints[number], one])
        elif word in ("cell", "cells"):
            gain_in(flow.cells, list(flow.cells) if word == "cells" else [told], one)
        elif word == "local":
            gain_in(flow.locals, [(view.thread,) + told], one)
        else:
            gain_frame(flow.locals, view.thread, told, one)
            gain_frame(flow.blocks, view.thread, told, one)


def gain_in(table, spots, one):
    """Those of these spots that are there gain a source."""
    for spot in spots:
        if spot in table:
            table[spot] = joined([table[spot], one])


def gain_frame(table, thread, depth, one):
    """All of one frame gain a source."""
    gain_in(table, [spot for spot in table if spot[0] == thread and spot[1] == depth], one)
