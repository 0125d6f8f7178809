"""Steps of the flat machine, and whole runs of it."""

from firstwrong.doings import Doing, stacks_behind
from firstwrong.flats import Flat, flat_begun, need_flat
from firstwrong.flatslots import FlatSlots
from firstwrong.layouts import need_layout
from firstwrong.trees import need_program
from firstwrong.treesteps import do_todo, todo_op
from firstwrong.turns import need_inputs, need_thread, need_weaving, refuse


def flat_step(flat, thread, inputs):
    """The machine behind one step of a thread."""
    need_flat(flat)
    need_thread(flat.program, thread)
    need_inputs(inputs)
    return flat_step_of(flat, thread, inputs)


def flat_step_of(flat, thread, inputs):
    """The same for what surely is a machine, a thread, inputs."""
    names = flat.program.names
    refuse(names, flat, thread, inputs, todo_op)
    slots = FlatSlots(flat)
    doing = Doing(names, slots, flat, thread, inputs)
    wrong = do_todo(doing)
    after = Flat(flat.program, flat.layout)
    if wrong is None:
        after.take_memory(slots)
        after.held = tuple(doing.held)
        after.stacks = stacks_behind(flat, doing)
        after.asked = doing.asked
        after.given = doing.given
    else:
        after.take_memory(FlatSlots(flat))
        after.held = flat.held
        after.stacks = flat.stacks
        after.asked = flat.asked
        after.given = flat.given
        after.wrong = (thread, wrong)
    return after


def need_flat_run(program, layout, inputs, weaving):
    """Refuses what no run of a flat machine can be told by."""
    need_program(program)
    need_layout(layout, "layout")
    need_inputs(inputs)
    need_weaving(program, weaving)


def flat_run(program, layout, inputs, weaving):
    """All machines of a run, the first one among them."""
    need_flat_run(program, layout, inputs, weaving)
    flat = flat_begun(program, layout)
    flats = [flat]
    for thread in weaving:
        flat = flat_step_of(flat, thread, inputs)
        flats.append(flat)
    return flats


def flat_first_wrong(program, layout, inputs, weaving):
    """None, or (place, thread, word) of the first step that goes wrong."""
    need_flat_run(program, layout, inputs, weaving)
    flat = flat_begun(program, layout)
    for place, thread in enumerate(weaving):
        flat = flat_step_of(flat, thread, inputs)
        if flat.wrong is not None:
            return (place,) + flat.wrong
    return None
