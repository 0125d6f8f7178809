"""Edits of moments, and stories: inputs, and entries done one after the other."""

from firstwrong.errors import BadEdit, BadInputs, BadStory, NotNow
from firstwrong.kinds import is_int, is_number, is_one_of, is_tuple_of, is_word
from firstwrong.momentparts import Sure
from firstwrong.moments import Moment, need_moment
from firstwrong.spots import cell_in, is_cell_name, is_thread_of, value_in
from firstwrong.steps import step_of
from firstwrong.trees import need_program
from firstwrong.turns import need_inputs
from firstwrong.values import is_of_sort, is_pointer

MOST_ENTRIES = 2048


def is_edit(program, thing):
    """Whether any value is an edit of a program."""
    need_program(program)
    return is_edit_of(program, thing)


def is_edit_of(program, thing):
    """The same for what surely is a program."""
    if not isinstance(thing, tuple) or len(thing) not in (4, 5):
        return False
    if not (thing[-1] is None or is_int(thing[-1]) or is_pointer(thing[-1])):
        return False
    if len(thing) == 4:
        return is_one_of(thing[0], ("local",)) and is_thread_of(program, thing[1]) and is_word(thing[2])
    return is_one_of(thing[0], ("cell",)) and is_cell_name(thing[1], thing[2], thing[3])


def edited(moment, edit):
    """The moment with a value put in."""
    need_moment(moment)
    if not is_edit_of(moment.program, edit):
        raise BadEdit("an edit of the moment's program is wanted")
    return edited_of(moment, edit)


def edited_of(moment, edit):
    """The same for what surely is an edit."""
    if moment.wrong is not None:
        raise NotNow("wrong")
    return edited_local(moment, edit) if edit[0] == "local" else edited_cell(moment, edit)


def edited_local(moment, edit):
    """The top frame of the thread has the value in its local."""
    _, thread, word, value = edit
    stack = moment.stacks[thread]
    if stack == () or value_in(moment, thread, len(stack), word) == ():
        raise NotNow("edit")
    function, todo, values, names, target = stack[-1]
    place, sort = moment.program.names.locals[function][word]
    need_sort(sort, value)
    frame = (function, todo, values[:place] + (value,) + values[place + 1:], names, target)
    stacks = moment.stacks[:thread] + (stack[:-1] + (frame,),) + moment.stacks[thread + 1:]
    return Moment(moment.program, Sure(moment.lives), moment.memory, moment.held, stacks, moment.asked,
                  moment.given, None)


def edited_cell(moment, edit):
    """The block has the value in its cell."""
    _, slot, life, offset, value = edit
    if cell_in(moment, slot, life, offset) == ():
        raise NotNow("edit")
    how, sort, cells = moment.memory[slot]
    need_sort(sort, value)
    memory = {**moment.memory, slot: (how, sort, cells[:offset] + (value,) + cells[offset + 1:])}
    return Moment(moment.program, Sure(moment.lives), memory, moment.held, moment.stacks, moment.asked,
                  moment.given, None)


def need_sort(sort, value):
    """Refuses a value that cannot stand there."""
    if value is not None and not is_of_sort(sort, value):
        raise NotNow("edit")


def is_entry(program, thing):
    """Whether any value is an entry: a thread's number or an edit."""
    return is_thread_of(program, thing) if is_number(thing) else is_edit_of(program, thing)


def is_story(program, thing):
    """Whether any value is a story of a program."""
    need_program(program)
    if not is_tuple_of(thing, 2) or not isinstance(thing[0], tuple) or not isinstance(thing[1], tuple):
        return False
    if not all([is_int(number) for number in thing[0]]) or len(thing[1]) > MOST_ENTRIES:
        return False
    return all([is_entry(program, entry) for entry in thing[1]])


def is_idle(moment, inputs, entry):
    """Whether an entry cannot be done at a moment."""
    need_moment(moment)
    need_inputs(inputs)
    if not is_entry(moment.program, entry):
        raise BadStory("an entry is wanted")
    return done_entry(moment, inputs, entry) is None


def done_entry(moment, inputs, entry):
    """The moment behind an entry, with the trace of its step (None of an edit); None if it is idle."""
    try:
        if isinstance(entry, tuple):
            return (edited_of(moment, entry), None)
        return step_of(moment, entry, inputs)
    except (NotNow, BadInputs):
        return None
