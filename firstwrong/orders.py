"""Orders of steps: clocks that tell what stands ahead of a step, and which steps are next to it."""

THREADS = 4
NOUGHT = (0, 0, 0, 0)
# A step that writes this cell meets all steps of other threads.
WRONG = ("wrong",)


def later(one, other):
    """Two clocks together: of each thread the greater number."""
    return tuple([max(first, second) for first, second in zip(one, other)])


def put_at(clock, thread, number):
    """The clock with another number of a thread."""
    return clock[:thread] + (number,) + clock[thread + 1:]


class Clockwork:
    """Gives each step its clock: of each thread how many steps are this step or ahead of it.

    rows has the clocks of each thread's steps; written and looked the clocks of
    those that wrote a cell, that read it, together; alone that of the last step
    which met all others.
    """

    def __init__(self):
        self.rows = [[], [], [], []]
        self.written = {}
        self.looked = {}
        self.alone = NOUGHT

    def take_step(self, thread, reads, writes):
        """One step more; steps that write a cell stand in an order with all that read or write it."""
        clock = self.alone
        for cell in reads:
            clock = later(clock, self.written.get(cell, NOUGHT))
        for cell in writes:
            clock = later(clock, later(self.written.get(cell, NOUGHT), self.looked.get(cell, NOUGHT)))
        for other, row in enumerate(self.rows):
            if row != [] and (other == thread or WRONG in writes):
                clock = later(clock, row[-1])
        clock = put_at(clock, thread, len(self.rows[thread]) + 1)
        self.rows[thread].append(clock)
        for cell in reads:
            self.looked[cell] = later(self.looked.get(cell, NOUGHT), clock)
        for cell in writes:
            self.written[cell] = clock
        if WRONG in writes:
            self.alone = clock

    def is_ahead(self, one, clock):
        """Whether a step is ahead of the one with this clock, or is this one."""
        return clock[one[0]] > one[1]

    def many_steps(self):
        """How many steps each thread has."""
        return tuple([len(row) for row in self.rows])

    def next_ahead(self, thread):
        """The steps of other threads that are ahead of a thread's last step, none between them."""
        clock = self.rows[thread][-1]
        lasts = [(other, clock[other] - (2 if other == thread else 1)) for other in range(THREADS)]
        lasts = [last for last in lasts if last[1] >= 0]
        found = []
        for one in lasts:
            # What stands between two steps is at or ahead of one of these.
            between = [other for other in lasts if other != one and self.is_ahead(one, self.clock_of(other))]
            if one[0] != thread and between == []:
                found.append(one)
        return found

    def clock_of(self, name):
        """The clock of a step by its name."""
        return self.rows[name[0]][name[1]]


class Visits:
    """Which steps read and wrote each cell, by their places."""

    def __init__(self):
        self.readers = {}
        self.writers = {}

    def met(self, reads, writes):
        """The ascending list of the steps that wrote what is read, or read or wrote what is written."""
        found = {}
        for cell in reads:
            for place in self.writers.get(cell, []):
                found[place] = True
        for cell in writes:
            for place in self.readers.get(cell, []) + self.writers.get(cell, []):
                found[place] = True
        return sorted(found)

    def take_step(self, place, reads, writes):
        """One step more."""
        for cell in reads:
            self.readers.setdefault(cell, []).append(place)
        for cell in writes:
            self.writers.setdefault(cell, []).append(place)
