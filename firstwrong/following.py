"""Runs done again by a ledger, whatever choices it leaves."""

from firstwrong.errors import BadChoices, BadNumber
from firstwrong.kinds import is_count, is_number_in, is_row, is_tuple_of
from firstwrong.ledgers import need_ledger
from firstwrong.moments import need_moment
from firstwrong.needs import Needs, one_more
from firstwrong.orders import NOUGHT, THREADS
from firstwrong.steps import step_of
from firstwrong.turns import need_inputs, need_thread


def free_threads(ledger, done):
    """The threads that have a step left which needs nothing more."""
    need_ledger(ledger)
    if not is_done(ledger, done):
        raise BadNumber("done")
    return tuple(Needs(ledger[0], ledger[1]).free(done))


def is_done(ledger, thing):
    """Whether any value tells how many steps of each thread are done, with all that they need."""
    counts, entries = ledger
    if not is_tuple_of(thing, THREADS):
        return False
    if not all([is_number_in(number, 0, most) for number, most in zip(thing, counts)]):
        return False
    return all([one[1] < thing[one[0]] for one, other in entries if other[1] < thing[other[0]]])


def followed(moment, inputs, ledger, choices):
    """The weaving that follows a ledger by these choices, and the moment in the end."""
    need_moment(moment)
    need_inputs(inputs)
    need_ledger(ledger)
    counts, entries = ledger
    if not is_row(choices) or len(choices) != sum(counts) or not all([is_count(choice) for choice in choices]):
        raise BadChoices("a choice for each step is wanted")
    needs = Needs(counts, entries)
    done = NOUGHT
    found = []
    for choice in choices:
        free = needs.free(done)
        thread = free[choice % len(free)]
        need_thread(moment.program, thread)
        moment, _ = step_of(moment, thread, inputs)
        found.append(thread)
        done = one_more(done, thread)
    return (tuple(found), moment)
