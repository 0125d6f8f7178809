"""One step of a thread while it is done."""


class GoneWrong(Exception):
    """The step does what is forbidden; word tells which."""

    def __init__(self, word):
        Exception.__init__(self, "a step goes wrong")
        self.word = word


class View:
    """What expressions are worked out with: memory, and the frame on top of a stack.

    reads has the cells that were read on the way.
    """

    def __init__(self, names, slots, stack):
        self.names = names
        self.slots = slots
        self.stack = list(stack)
        self.reads = []

    def local(self, word):
        """The sort and value of a param or local, None if it is unset."""
        function, _, values, _, _ = self.stack[-1]
        place, sort = self.names.locals[function][word]
        return (sort, values[place])

    def block_named(self, word):
        """The sort of a block of the frame, and its name."""
        place, sort = self.names.blocks[self.stack[-1][0]][word]
        return (sort, self.stack[-1][3][place])


class Doing(View):
    """What a step changes, and which cells it reads and writes.

    slots is the memory of the machine, moment has its stacks, held, asked and
    given; names are those of the program or code.
    """

    def __init__(self, names, slots, moment, thread, inputs):
        View.__init__(self, names, slots, moment.stacks[thread])
        self.thread = thread
        self.inputs = inputs
        self.held = list(moment.held)
        self.asked = moment.asked
        self.given = moment.given
        self.writes = []

    def put(self, word, value):
        """The param or local gets the value; there is none for the word ""."""
        if word == "":
            return
        function, todo, values, names, target = self.stack[-1]
        place, _ = self.names.locals[function][word]
        values = values[:place] + (value,) + values[place + 1:]
        self.stack[-1] = (function, todo, values, names, target)

    def go_to(self, todo):
        """What the frame has to do next."""
        function, _, values, names, target = self.stack[-1]
        self.stack[-1] = (function, todo, values, names, target)

    def trace(self, wrong):
        """The cells read and written; a wrong step writes ("wrong",) alone."""
        reads = tuple(sorted(set(self.reads)))
        if wrong is not None:
            return (reads, (("wrong",),))
        return (reads, tuple(sorted(set(self.writes))))


def stacks_behind(moment, doing):
    """The stacks of a moment, with that of the thread as the step left it."""
    thread = doing.thread
    return moment.stacks[:thread] + (tuple(doing.stack),) + moment.stacks[thread + 1:]
