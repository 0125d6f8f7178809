"""Steps looked at for races: deeds at one place that no lock puts in an order."""

from firstwrong.orders import THREADS, Clockwork, put_at

ORDER = ("lock", "free", "asked", "given")
MEMORY = ("cell", "block")
NEVER = (-1, -1, -1, -1)


def cells_among(cells, firsts):
    """The cells that begin with one of these words."""
    return [cell for cell in cells if cell[0] in firsts]


class Racer:
    """Goes along with a run.

    clockwork tells the order of its steps, by order cells; looked and written
    which step of each thread last read and wrote each memory cell.
    """

    def __init__(self):
        self.clockwork = Clockwork()
        self.looked = {}
        self.written = {}

    def take_step(self, thread, trace):
        """One step more; of each other thread the last step with which it is a race, if there is one."""
        reads, writes, _ = trace
        number = len(self.clockwork.rows[thread])
        self.clockwork.take_step(thread, cells_among(reads, ORDER), cells_among(writes, ORDER))
        clock = self.clockwork.rows[thread][-1]
        looks = cells_among(reads, MEMORY)
        puts = cells_among(writes, MEMORY)
        lasts = [self.written.get(cell, NEVER) for cell in looks + puts]
        lasts.extend([self.looked.get(cell, NEVER) for cell in puts])
        for cell in looks:
            self.looked[cell] = put_at(self.looked.get(cell, NEVER), thread, number)
        for cell in puts:
            self.written[cell] = put_at(self.written.get(cell, NEVER), thread, number)
        found = []
        for other in range(THREADS):
            # If the last one is ordered ahead of this step, so are all ahead of it.
            last = max([-1] + [row[other] for row in lasts])
            if other != thread and last >= clock[other]:
                found.append((other, last))
        return tuple(found)
