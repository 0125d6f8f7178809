"""Races: deeds at one place of two threads that nothing puts in an order."""

from firstwrong.ledgers import ledger_told
from firstwrong.orders import NOUGHT, Clockwork, Visits, later, put_at
from firstwrong.racing import MEMORY, ORDER, Racer, cells_among
from firstwrong.steps import need_run, step_of
from firstwrong.weavings import clockwork_of, names_told, need_traces, need_woven


def ordered(traces):
    """The traces with their order cells alone."""
    return [(cells_among(reads, ORDER), cells_among(writes, ORDER), None) for reads, writes, _ in traces]


def order_clocks(weaving, traces):
    """For each step how many steps of each thread are this step or ordered ahead of it."""
    need_woven(weaving)
    need_traces(weaving, traces)
    clockwork = clockwork_of(weaving, ordered(traces))
    return [clockwork.clock_of(name) for name in names_told(weaving)]


def order_ledger(weaving, traces):
    """The ledger of the pairs of steps that are ordered, with no step between them."""
    need_woven(weaving)
    need_traces(weaving, traces)
    return ledger_told(weaving, ordered(traces))


def races(weaving, traces):
    """The pairs of names of steps that are races."""
    need_woven(weaving)
    need_traces(weaving, traces)
    names = names_told(weaving)
    return [(names[one], names[other]) for other, row in enumerate(places_racing(weaving, traces)) for one in row]


def places_racing(weaving, traces):
    """For each step the places of those ahead of it with which it is a race."""
    names = names_told(weaving)
    clockwork = Clockwork()
    visits = Visits()
    rows = []
    for place, (reads, writes, _) in enumerate(traces):
        clockwork.take_step(weaving[place], cells_among(reads, ORDER), cells_among(writes, ORDER))
        clock = clockwork.clock_of(names[place])
        looks = cells_among(reads, MEMORY)
        puts = cells_among(writes, MEMORY)
        rows.append([one for one in visits.met(looks, puts) if not clockwork.is_ahead(names[one], clock)])
        visits.take_step(place, looks, puts)
    return rows


def run_to_race(moment, inputs, weaving):
    """The traces of a run up to the first race, and with which steps its last one is one, () for none."""
    need_run(moment, inputs, weaving)
    racer = Racer()
    traces = []
    for thread in weaving:
        moment, trace = step_of(moment, thread, inputs)
        traces.append(trace)
        ones = racer.take_step(thread, trace)
        if ones != ():
            return (traces, ones)
    return (traces, ())


def last_named(weaving, ones):
    """Which of these steps stands last in the weaving."""
    places = {name: place for place, name in enumerate(names_told(weaving))}
    return max([(places[one], one) for one in ones])[1]


def first_race(moment, inputs, weaving):
    """(place, thread, one) of the first step that ends a race; None without one."""
    traces, ones = run_to_race(moment, inputs, weaving)
    if ones == ():
        return None
    place = len(traces) - 1
    return (place, weaving[place], last_named(weaving, ones))


def both_ways(moment, inputs, weaving):
    """Two weavings that end with the two steps of the first race, the one way about and the other;
    None without one."""
    traces, ones = run_to_race(moment, inputs, weaving)
    if ones == ():
        return None
    done = weaving[:len(traces)]
    names = names_told(done)
    clockwork = clockwork_of(done, ordered(traces))
    one = last_named(weaving, ones)
    racing = [names[place] for place in places_racing(done, traces)[-1]]
    # How many steps of each thread must be ahead of both.
    wanted = NOUGHT
    for name in racing:
        if name != one:
            wanted = later(wanted, clockwork.clock_of(name))
    for name in (one, names[-1]):
        wanted = later(wanted, put_at(clockwork.clock_of(name), name[0], name[1]))
    ahead = tuple([thread for thread, number in names if number < wanted[thread]])
    return (ahead + (one[0], names[-1][0]), ahead + (names[-1][0], one[0]))
