"""Ledgers as they are kept: what each step needs to be done ahead of it."""

from firstwrong.orders import NOUGHT, THREADS, later, put_at


def one_more(done, thread):
    """One step more of a thread."""
    return put_at(done, thread, done[thread] + 1)


class Needs:
    """For each step of a ledger how many steps of other threads its entries want ahead.

    What is done is told by a tuple of four numbers, the first so many steps of
    each thread.
    """

    def __init__(self, counts, entries):
        self.counts = counts
        self.needed = {}
        for (thread, number), other in entries:
            row = self.needed.get(other, NOUGHT)
            self.needed[other] = later(row, put_at(NOUGHT, thread, number + 1))

    def is_free(self, done, thread):
        """Whether a thread has a step left that needs nothing more."""
        if done[thread] == self.counts[thread]:
            return False
        row = self.needed.get((thread, done[thread]), NOUGHT)
        return all([number >= want for number, want in zip(done, row)])

    def free(self, done):
        """The ascending list of these threads."""
        return [thread for thread in range(THREADS) if self.is_free(done, thread)]

    def woven(self, done, limit):
        """The least way on from what is done, as far as it goes, up to so many steps of each thread."""
        found = []
        going = True
        while going:
            going = False
            for thread in range(THREADS):
                if done[thread] < limit[thread] and self.is_free(done, thread):
                    found.append(thread)
                    done = one_more(done, thread)
                    going = True
                    break
        return found

    def is_kept_by(self, weaving):
        """Whether a weaving has all these steps, none ahead of what it needs."""
        done = NOUGHT
        for thread in weaving:
            if not self.is_free(done, thread):
                return False
            done = one_more(done, thread)
        return done == self.counts

    def clocks(self):
        """For each thread the list of its steps' clocks: how many steps of each thread are this
        step or needed ahead of it."""
        rows = [[], [], [], []]
        done = NOUGHT
        for thread in self.woven(NOUGHT, self.counts):
            number = done[thread]
            clock = rows[thread][-1] if number > 0 else NOUGHT
            for one, want in enumerate(self.needed.get((thread, number), NOUGHT)):
                if want > 0:
                    clock = later(clock, rows[one][want - 1])
            done = one_more(done, thread)
            rows[thread].append(put_at(clock, thread, number + 1))
        return rows
