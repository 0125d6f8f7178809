"""Ledgers: which steps must stand ahead of which, so that a run can be done again by other weavings."""

from firstwrong.errors import BadEntry, BadLedger, BadNumber
from firstwrong.kinds import is_number_in, is_tuple_of
from firstwrong.needs import Needs
from firstwrong.orders import NOUGHT, THREADS, Clockwork, later, put_at
from firstwrong.steps import run
from firstwrong.weavings import is_name_within, need_trace, need_traces, need_woven

MOST_STEPS = 2000


def is_ledger(thing):
    """Whether any value is a ledger."""
    if not is_tuple_of(thing, 2) or not is_tuple_of(thing[0], THREADS) or not isinstance(thing[1], tuple):
        return False
    counts, entries = thing
    if not all([is_number_in(number, 0, MOST_STEPS) for number in counts]):
        return False
    if not all([is_entry_within(entry, counts) for entry in entries]):
        return False
    if not all([one < other for one, other in zip(entries, entries[1:])]):
        return False
    return len(Needs(counts, entries).woven(NOUGHT, counts)) == sum(counts)


def is_entry_within(thing, counts):
    """Whether any value is a pair of names of steps of unlike threads."""
    if not is_tuple_of(thing, 2):
        return False
    one, other = thing
    return is_name_within(one, counts) and is_name_within(other, counts) and one[0] != other[0]


def need_ledger(ledger):
    """Refuses what is no ledger."""
    if not is_ledger(ledger):
        raise BadLedger("a ledger is wanted")


def keeps_ledger(ledger, weaving):
    """Whether a weaving keeps a ledger."""
    need_ledger(ledger)
    need_woven(weaving)
    return Needs(ledger[0], ledger[1]).is_kept_by(weaving)


class Recorder:
    """A ledger that grows with a run.

    did has the threads of the steps seen, with the cells that each read and wrote.
    """

    def __init__(self):
        self.clockwork = Clockwork()
        self.entries = []
        self.did = []

    def __eq__(self, other):
        if not isinstance(other, Recorder):
            return False
        return self.did == other.did

    def seen(self, thread, trace):
        """One step more of a thread; the entries that come with it."""
        if not is_number_in(thread, 0, THREADS - 1):
            raise BadNumber("thread")
        need_trace(trace)
        reads, writes, _ = trace
        self.did.append((thread, {cell: True for cell in reads}, {cell: True for cell in writes}))
        fresh = entries_with(self.clockwork, thread, reads, writes)
        self.entries.extend(fresh)
        return tuple(fresh)

    def ledger(self):
        """The ledger of the steps seen till now."""
        return (self.clockwork.many_steps(), tuple(sorted(self.entries)))


def entries_with(clockwork, thread, reads, writes):
    """The entries that come with one step more of a thread."""
    name = (thread, len(clockwork.rows[thread]))
    clockwork.take_step(thread, reads, writes)
    return [(one, name) for one in clockwork.next_ahead(thread)]


def ledger_told(weaving, traces):
    """The least ledger of what surely are a weaving and its traces."""
    clockwork = Clockwork()
    entries = []
    for thread, (reads, writes, _) in zip(weaving, traces):
        entries.extend(entries_with(clockwork, thread, reads, writes))
    return (clockwork.many_steps(), tuple(sorted(entries)))


def least_ledger(weaving, traces):
    """The ledger of the meetings between which nothing must stand."""
    need_woven(weaving)
    need_traces(weaving, traces)
    return ledger_told(weaving, traces)


def run_ledger(moment, inputs, weaving):
    """The least ledger of a run."""
    _, traces = run(moment, inputs, weaving)
    return ledger_told(weaving, traces)


def is_idle_entry(needs, rows, entry):
    """Whether the other entries want this one kept: one is at or ahead of another step
    that is right ahead of other. rows are the clocks of the ledger's steps."""
    (thread, number), other = entry
    ahead = list(needs.needed[other])
    if ahead[thread] > number + 1:
        return True
    ahead[thread] = 0
    ahead[other[0]] = other[1]
    return any([want > 0 and rows[spot][want - 1][thread] > number for spot, want in enumerate(ahead)])


def lets_in(ledger, entry):
    """A weaving that keeps all entries but this one; None if there is none."""
    need_ledger(ledger)
    counts, entries = ledger
    # What is equal to an entry need not be of the same kinds.
    if not is_entry_within(entry, counts) or entry not in entries:
        raise BadEntry("an entry of the ledger is wanted")
    needs = Needs(counts, entries)
    rows = needs.clocks()
    if is_idle_entry(needs, rows, entry):
        return None
    one, other = entry
    kept = Needs(counts, [known for known in entries if known != entry])
    limit = rows[one[0]][one[1]]
    for spot, want in enumerate(put_at(kept.needed.get(other, NOUGHT), other[0], other[1])):
        if want > 0:
            limit = later(limit, rows[spot][want - 1])
    limit = put_at(put_at(limit, one[0], one[1]), other[0], other[1])
    ahead = kept.woven(NOUGHT, limit)
    done = put_at(put_at(limit, one[0], one[1] + 1), other[0], other[1] + 1)
    return tuple(ahead + [other[0], one[0]] + kept.woven(done, counts))


def is_lean_ledger(ledger):
    """Whether no entry can be left out."""
    need_ledger(ledger)
    return len(lean_entries(ledger)) == len(ledger[1])


def leaned_ledger(ledger):
    """The ledger without the entries that the others want kept."""
    need_ledger(ledger)
    return (ledger[0], tuple(lean_entries(ledger)))


def lean_entries(ledger):
    """The entries that cannot be left out."""
    needs = Needs(ledger[0], ledger[1])
    rows = needs.clocks()
    return [entry for entry in ledger[1] if not is_idle_entry(needs, rows, entry)]
