"""Steps over todos: what the machine with slots and the flat one have in common."""

from firstwrong.deeds import do_op, end_frame
from firstwrong.doings import GoneWrong
from firstwrong.parts import expressions_of, own_op
from firstwrong.turns import END
from firstwrong.working import worked


def todo_op(moment, thread):
    """The own op of what a thread does next."""
    todo = moment.stacks[thread][-1][1]
    if todo == ():
        return END
    return own_op(todo[0])


def todo_behind(todo, parts):
    """The todo behind the first statement, whose expressions are worked out."""
    first = todo[0]
    if first[0] not in ("if", "while"):
        return todo[1:]
    holds = parts[0][1] != 0
    if first[0] == "if":
        return first[2 if holds else 3] + todo[1:]
    return first[2] + todo if holds else todo[1:]


def do_todo(doing):
    """The next statement of the frame on top, whole; the wrong word, or None."""
    todo = doing.stack[-1][1]
    if todo == ():
        end_frame(doing, None)
        return None
    first = todo[0]
    try:
        parts = [worked(doing, expression) for expression in expressions_of(first)]
        doing.go_to(todo_behind(todo, parts))
        do_op(doing, own_op(first), parts)
    except GoneWrong as wrong:
        return wrong.word
    return None
