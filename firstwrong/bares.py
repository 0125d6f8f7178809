"""What runs of the bare machine show, and where two layouts are told apart."""

from firstwrong.baremachine import Bare
from firstwrong.layouts import need_layout
from firstwrong.trees import need_program
from firstwrong.turns import need_inputs, need_weaving


def bare_run(program, layout, inputs, weaving):
    """What each step of a bare run shows."""
    need_program(program)
    need_layout(layout, "layout")
    need_inputs(inputs)
    need_weaving(program, weaving)
    return shows(program, layout, inputs, weaving)


def shows(program, layout, inputs, weaving):
    """The same for what surely is right."""
    bare = Bare(program, layout, list(inputs))
    return tuple([bare.step(thread) for thread in weaving])


def told_apart(program, inputs, weaving, one, other):
    """The first place at which the shows in two layouts are not the same."""
    need_program(program)
    need_inputs(inputs)
    need_weaving(program, weaving)
    need_layout(one, "one")
    need_layout(other, "other")
    first = shows(program, one, inputs, weaving)
    second = shows(program, other, inputs, weaving)
    for place in range(len(first)):
        if first[place] != second[place]:
            return place
    return None
