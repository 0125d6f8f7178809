"""Watchers: they go along with a run and tell its first race or its first wrong deed."""

from firstwrong.errors import BadNumber
from firstwrong.kinds import is_number_in
from firstwrong.orders import THREADS
from firstwrong.racing import Racer
from firstwrong.steps import need_run, step_of
from firstwrong.weavings import need_trace


class Watcher:
    """Tells of each step of a run whether it ends a race."""

    def __init__(self):
        self.racer = Racer()

    def seen(self, thread, trace):
        """One step more; of each other thread the last step with which it is a race, if there is one."""
        if not is_number_in(thread, 0, THREADS - 1):
            raise BadNumber("thread")
        need_trace(trace)
        return self.racer.take_step(thread, trace)


def verdict(moment, inputs, weaving):
    """(place, thread, word) of the first step that ends a race or goes wrong; None without one."""
    need_run(moment, inputs, weaving)
    racer = Racer()
    for place, thread in enumerate(weaving):
        moment, trace = step_of(moment, thread, inputs)
        if racer.take_step(thread, trace) != ():
            return (place, thread, "race")
        if moment.wrong is not None:
            return (place,) + moment.wrong
    return None
