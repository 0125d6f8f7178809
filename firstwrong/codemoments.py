"""Code moments: moments whose frames have a position in place of the todo."""

from firstwrong.codes import code_of, full, need_code
from firstwrong.errors import BadCode, BadMoment
from firstwrong.kinds import is_number_in
from firstwrong.momentparts import MomentJudge, Parts, Sure
from firstwrong.moments import Moment, need_moment
from firstwrong.starts import first_parts
from firstwrong.trees import need_program


class CodeMoment(Parts):
    """A moment of a run of a code."""

    def __init__(self, code, lives, memory, held, stacks, asked, given, wrong):
        need_code(code)
        judge = MomentJudge(code, is_position)
        Parts.__init__(self, judge, lives, memory, held, stacks, asked, given, wrong)
        self.code = code

    def __eq__(self, other):
        if not isinstance(other, CodeMoment):
            return False
        return self.code == other.code and self.is_like(other)


def is_position(code, function, thing):
    """Whether any value is a position of a function."""
    return is_number_in(thing, 0, len(code.lines[function]))


def need_code_moment(moment):
    """Refuses what is no CodeMoment."""
    if not isinstance(moment, CodeMoment):
        raise BadMoment(None)


def code_begun(code):
    """The first moment of each run of a code."""
    need_code(code)
    lives, memory, held, stacks = first_parts(code, [0] * len(code.threads))
    return CodeMoment(code, Sure(lives), memory, held, stacks, 0, (), None)


def todos_by_position(program):
    """For each function the todos of its positions, () for the end behind them."""
    return [[todo for todo in todos if todo != ()] + [()] for todos in program.todos]


def stacks_put(stacks, put):
    """The stacks with what put tells of each frame's function and todo (or position)."""
    found = []
    for stack in stacks:
        found.append(tuple([frame[:1] + (put(frame[0], frame[1]),) + frame[2:] for frame in stack]))
    return tuple(found)


def to_code(moment):
    """The code moment of the code of a moment's program."""
    need_moment(moment)
    todos = todos_by_position(moment.program)
    stacks = stacks_put(moment.stacks, lambda function, todo: todos[function].index(todo))
    return CodeMoment(code_of(moment.program), Sure(moment.lives), moment.memory, moment.held, stacks,
                      moment.asked, moment.given, moment.wrong)


def to_tree(program, moment):
    """The moment of the program whose code this is."""
    need_program(program)
    need_code_moment(moment)
    if full(moment.code) != code_of(program):
        raise BadCode("program")
    todos = todos_by_position(program)
    stacks = stacks_put(moment.stacks, lambda function, position: todos[function][position])
    # Moment judges it: no way may come to an end.
    return Moment(program, moment.lives, moment.memory, moment.held, stacks, moment.asked, moment.given,
                  moment.wrong)
