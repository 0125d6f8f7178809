"""Conditions: expressions over shared blocks, and the places at which they hold."""

from firstwrong.bodies import BodyJudge
from firstwrong.doings import GoneWrong
from firstwrong.errors import BadCondition, BadTree
from firstwrong.moments import need_moment
from firstwrong.names import Names
from firstwrong.pasts import all_moments, moment_of, need_past, need_place, numbers_from, rows_of
from firstwrong.stepviews import view_of
from firstwrong.trees import need_program
from firstwrong.working import worked

# A function without params, locals and blocks.
EMPTY = ("empty", (), (), (), "none", ())


def is_condition(program, thing):
    """Whether any value is a condition of a program."""
    need_program(program)
    return is_condition_of(program, thing)


def is_condition_of(program, thing):
    """The same for what surely is a program."""
    return is_test(Names(program.shared, program.locks, (EMPTY,)), 0, thing)


def is_test(names, number, thing):
    """Whether any value is an expression of sort int of a function."""
    try:
        BodyJudge(names, number).expression(thing, (), 1, "int")
    except BadTree:
        return False
    return True


def need_condition(program, condition):
    """Refuses what is no condition."""
    if not is_condition_of(program, condition):
        raise BadCondition("a condition of the program is wanted")


def tested(moment, stack, expression):
    """Whether an expression is worked out to another number than 0 for the frame on
    top of a stack, and which cells this reads."""
    view = view_of(moment, stack)
    try:
        _, number = worked(view, expression)
    except GoneWrong:
        return (False, view.reads)
    return (number != 0, view.reads)


def holds(moment, condition):
    """Whether a condition holds at a moment."""
    need_moment(moment)
    need_condition(moment.program, condition)
    return tested(moment, (), condition)[0]


class Candidates:
    """Goes from candidate to candidate, forwards or backwards.

    row is the past, place the one it is at, None behind the last one; hold tells whether the
    condition holds there, and at all places up to the next one; again how many
    deeds were done once more.
    """

    def __init__(self, past, place, condition, forwards):
        self.row = past
        self.condition = condition
        self.forwards = forwards
        self.again = 0
        self.look_at(place)

    def look_at(self, place):
        """Works the condition out at a place."""
        self.place = place
        self.hold = False
        self.reads = []
        if place is not None:
            moment, again = moment_of(self.row, place)
            self.again += again
            self.hold, self.reads = tested(moment, (), self.condition)

    def go_further(self):
        """On to the next candidate."""
        for number in numbers_from(self.row, self.place, self.place - 1, self.forwards):
            if any([cell in self.reads for cell in self.row.did[number][5]]):
                self.look_at(number + 1 if self.forwards else number)
                return
        self.look_at(None)


def nearest(past, place, condition, forwards):
    """The nearest place at which a condition holds, and how many deeds were done once more."""
    need_past(past)
    need_place(past, place)
    need_condition(past.program, condition)
    candidates = Candidates(past, place, condition, forwards)
    while candidates.place is not None and not candidates.hold:
        candidates.go_further()
    return (candidates.place, candidates.again)


def first_moment(past, place, condition):
    """The least place from this one on at which a condition holds."""
    return nearest(past, place, condition, True)


def last_moment(past, place, condition):
    """The greatest place up to this one at which a condition holds."""
    return nearest(past, place, condition, False)


def spans(past, condition):
    """The first and last places of the rows of moments at which a condition holds."""
    need_past(past)
    need_condition(past.program, condition)
    return rows_of([tested(moment, (), condition)[0] for moment in all_moments(past)])
