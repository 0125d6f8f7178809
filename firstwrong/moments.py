"""Moments of a run: memory, locks, stacks, what was asked, given, what is wrong."""

from firstwrong.errors import BadMoment
from firstwrong.kinds import is_same
from firstwrong.momentparts import MomentJudge, Parts, Sure
from firstwrong.starts import first_parts, starts_of
from firstwrong.trees import need_program


class Moment(Parts):
    """A moment of a run of a program."""

    def __init__(self, program, lives, memory, held, stacks, asked, given, wrong):
        need_program(program)
        judge = MomentJudge(program, is_todo)
        Parts.__init__(self, judge, lives, memory, held, stacks, asked, given, wrong)
        self.program = program

    def __eq__(self, other):
        if not isinstance(other, Moment):
            return False
        return self.program == other.program and self.is_like(other)


def is_todo(program, function, thing):
    """Whether any value is one of the todos of a function."""
    return any([is_same(thing, todo) for todo in program.todos[function]])


def need_moment(moment):
    """Refuses what is no Moment."""
    if not isinstance(moment, Moment):
        raise BadMoment(None)


def begun(program):
    """The first moment of each run of a program."""
    need_program(program)
    lives, memory, held, stacks = first_parts(program, starts_of(program))
    return Moment(program, Sure(lives), memory, held, stacks, 0, (), None)
