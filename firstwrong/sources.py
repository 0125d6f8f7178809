"""Sources: the values from which a run comes, and at which two runs are unlike."""

from firstwrong.errors import BadMoment
from firstwrong.spots import cells_of, locals_in
from firstwrong.steps import run


def sources_of(moment, inputs, weaving):
    """The ascending tuple of the sources of a run."""
    run(moment, inputs, weaving)
    return tuple(sorted(source_values(moment, inputs)))


def source_values(moment, inputs):
    """What each source holds."""
    found = {}
    for cell, value in cells_of(moment).items():
        found[("cell",) + cell] = value
    for local, value in locals_in(moment).items():
        found[("local",) + local] = value
    for number, value in enumerate(inputs):
        found[("input", number)] = value
    return found


def without_values(moment):
    """What two akin runs have in common at their first moments, but for the program."""
    memory = {slot: (how, sort, len(cells)) for slot, (how, sort, cells) in moment.memory.items()}
    stacks = [[frame[:2] + frame[3:] for frame in stack] for stack in moment.stacks]
    return (moment.lives, memory, moment.held, stacks, moment.asked, moment.given, moment.wrong)


def both_runs(moment, inputs, weaving, other, others):
    """The moments and traces of both runs, which must be akin."""
    one = run(moment, inputs, weaving)
    two = run(other, others, weaving)
    if moment.program != other.program or without_values(moment) != without_values(other):
        raise BadMoment("akin")
    return (one, two)


def unlike_sources(moment, inputs, weaving, other, others):
    """The ascending tuple of the sources at which two akin runs are unlike."""
    both_runs(moment, inputs, weaving, other, others)
    one = source_values(moment, inputs)
    two = source_values(other, others)
    found = [source for source in one if source not in two or two[source] != one[source]]
    found.extend([source for source in two if source not in one])
    return tuple(sorted(found))
