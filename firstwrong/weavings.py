"""Weavings of threads: the names of their steps, which of them meet, and which must be ahead."""

from firstwrong.errors import BadStep, BadTraces, BadWeaving
from firstwrong.kinds import is_number, is_number_in, is_one_of, is_row, is_tuple_of, is_word
from firstwrong.orders import THREADS, WRONG, Clockwork, Visits

FIRSTS = ("cell", "block", "free", "lock", "asked", "given", "wrong")


def need_woven(weaving):
    """Refuses what is no weaving."""
    if not is_row(weaving) or not all([is_number_in(thread, 0, THREADS - 1) for thread in weaving]):
        raise BadWeaving("a list of numbers from 0 to 3 is wanted")


def is_cell_told(thing):
    """Whether any value is a cell: one of the first words, and numbers and words."""
    if not isinstance(thing, tuple) or thing == () or not is_one_of(thing[0], FIRSTS):
        return False
    return all([is_number(part) or is_word(part) for part in thing[1:]])


def is_trace(thing):
    """Whether any value is a triple of cells read, cells written, and anything."""
    if not is_tuple_of(thing, 3) or not isinstance(thing[0], tuple) or not isinstance(thing[1], tuple):
        return False
    return all([is_cell_told(cell) for cell in thing[0] + thing[1]])


def need_trace(trace):
    """Refuses what is no trace of a step."""
    if not is_trace(trace):
        raise BadTraces("a triple of cells read, cells written and anything is wanted")


def need_traces(weaving, traces):
    """Refuses what is no list of a trace for each step."""
    if not is_row(traces) or len(traces) != len(weaving):
        raise BadTraces("a trace for each step is wanted")
    for trace in traces:
        need_trace(trace)


def names_of(weaving):
    """The names of a weaving's steps."""
    need_woven(weaving)
    return names_told(weaving)


def names_told(weaving):
    """The same for what surely is a weaving."""
    counts = [0] * THREADS
    found = []
    for thread in weaving:
        found.append((thread, counts[thread]))
        counts[thread] += 1
    return found


def meetings(weaving, traces):
    """The pairs of names of steps of unlike threads that meet."""
    need_woven(weaving)
    need_traces(weaving, traces)
    names = names_told(weaving)
    visits = Visits()
    alone = []
    found = []
    for place, (reads, writes, _) in enumerate(traces):
        met = sorted(set(visits.met(reads, writes) + alone))
        if WRONG in writes:
            met = list(range(place))
            alone.append(place)
        found.extend([(names[one], names[place]) for one in met if weaving[one] != weaving[place]])
        visits.take_step(place, reads, writes)
    return found


def clockwork_of(weaving, traces):
    """The clocks of all steps."""
    clockwork = Clockwork()
    for thread, (reads, writes, _) in zip(weaving, traces):
        clockwork.take_step(thread, reads, writes)
    return clockwork


def clocks(weaving, traces):
    """For each step how many steps of each thread are this step or must be ahead of it."""
    need_woven(weaving)
    need_traces(weaving, traces)
    clockwork = clockwork_of(weaving, traces)
    return [clockwork.clock_of(name) for name in names_told(weaving)]


def must_be_ahead(weaving, traces, one, other):
    """Whether one step must be ahead of another one, both by their names."""
    need_woven(weaving)
    need_traces(weaving, traces)
    clockwork = clockwork_of(weaving, traces)
    for name in (one, other):
        if not is_name_within(name, clockwork.many_steps()):
            raise BadStep("the name of a step is wanted")
    return one != other and clockwork.is_ahead(one, clockwork.clock_of(other))


def is_name_within(thing, counts):
    """Whether any value names one of so many steps of each thread."""
    if not is_tuple_of(thing, 2) or not is_number_in(thing[0], 0, THREADS - 1):
        return False
    return is_number_in(thing[1], 0, counts[thing[0]] - 1)
