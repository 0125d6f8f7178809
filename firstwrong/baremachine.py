"""The bare machine: numbers alone, and nothing is looked at."""

from firstwrong.layouts import next_base
from firstwrong.momentparts import MOST_FRAMES, SLOTS
from firstwrong.parts import expressions_of, own_op
from firstwrong.slots import free_slots
from firstwrong.starts import first_parts, starts_of
from firstwrong.treesteps import todo_behind
from firstwrong.turns import is_held
from firstwrong.working import settles


def wanted(sort, number):
    """A number where one of this sort is wanted."""
    if sort == "int":
        return ((number + 2 ** 31) & (2 ** 32 - 1)) - 2 ** 31
    if sort == "byte":
        return number & 255
    return number & (2 ** 32 - 1)


def combined(word, first, second):
    """What two numbers make; nothing comes of a division by 0."""
    if word == "sum" or word == "on":
        return first + second
    if word == "less" or word == "gap":
        return first - second
    if word == "times":
        return first * second
    if word == "same":
        return 1 if first == second else 0
    if word == "below":
        return 1 if first < second else 0
    if second == 0:
        return 0
    quotient = first // second
    return quotient if word == "share" else first - second * quotient


class Bare:
    """A bare machine in a run of a program.

    there tells by slots (how, base, number of cells) of the blocks that are
    there; frames are as in moments, but with numbers as values and bases as
    names. shown has the ints and bytes that the step read.
    """

    def __init__(self, program, layout, inputs):
        self.names = program.names
        self.fill, self.hints = layout
        self.inputs = inputs
        self.lives = [0] * SLOTS
        self.cells = {}
        self.there = {}
        self.count = 0
        self.greatest = 0
        self.held = [None] * len(program.locks)
        self.asked = 0
        self.shown = []
        self.shared = []
        self.begin(program)

    def begin(self, program):
        """The shared blocks, and the first frames."""
        _, memory, _, stacks = first_parts(program, starts_of(program))
        bases = {}
        for slot in memory:
            how, _, cells = memory[slot]
            bases[slot] = self.come(slot, how, len(cells))
            if how == "shared":
                self.shared.append(bases[slot])
                for offset in range(len(cells)):
                    self.cells[bases[slot] + offset] = 0
        self.stacks = []
        for stack in stacks:
            function, todo, values, names, target = stack[0]
            frame = (function, todo, (self.fill,) * len(values), tuple([bases[slot] for slot, _ in names]), target)
            self.stacks.append([frame])

    def come(self, slot, how, many):
        """A block comes into a free slot; its base."""
        taken = [(base, cells) for _, base, cells in self.there.values()]
        base = next_base(self.hints, self.count, taken, self.greatest, many)
        self.count += 1
        self.greatest = max(self.greatest, base + many)
        self.lives[slot] += 1
        self.there[slot] = (how, base, many)
        self.fill_all(base, many)
        return base

    def go(self, base, how):
        """The block with this base goes, if it is there."""
        for slot in sorted(self.there):
            kept, other, many = self.there[slot]
            if kept == how and other == base:
                self.lives[slot] += 1
                del self.there[slot]
                self.fill_all(base, many)
                return

    def fill_all(self, base, many):
        """All that a block takes becomes fill."""
        for address in range(base, base + many + 1):
            self.cells[address] = self.fill

    def worked(self, stack, expression):
        """The pair (sort, number) of an expression for the frame on top."""
        word = expression[0]
        if word in ("int", "byte"):
            return expression
        if word in ("null", "shared", "block"):
            return self.pointer(stack[-1], word, expression[1])
        if word == "local":
            place, sort = self.names.locals[stack[-1][0]][expression[1]]
            return self.seen(sort, stack[-1][2][place])
        first = self.worked(stack, expression[1])
        if word in ("and", "or"):
            value = first[1]
            if not settles(word, value):
                value = self.worked(stack, expression[2])[1]
            return ("int", 1 if value != 0 else 0)
        if len(expression) == 2:
            return self.made_of_one(word, first)
        second = self.worked(stack, expression[2])
        sort = "int" if word in ("gap", "same", "below") else first[0]
        return (sort, wanted(sort, combined(word, first[1], second[1])))

    def pointer(self, frame, word, told):
        """The address that a leaf tells."""
        if word == "null":
            return (("to", told), 0)
        if word == "shared":
            slot, sort = self.names.shared[told]
            return (("to", sort), self.shared[slot])
        place, sort = self.names.blocks[frame[0]][told]
        return (("to", sort), frame[3][place])

    def seen(self, sort, number):
        """What is read, as one of its sort wants it; ints and bytes are shown."""
        number = wanted(sort, number)
        if not isinstance(sort, tuple):
            self.shown.append(number)
        return (sort, number)

    def made_of_one(self, word, part):
        """What "at", "wide", "low" and "not" make of their part."""
        sort, number = part
        if word == "at":
            return self.seen(sort[1], self.cells.get(number, self.fill))
        if word == "not":
            return ("int", 1 if number == 0 else 0)
        sort = "int" if word == "wide" else "byte"
        return (sort, wanted(sort, number))

    def put(self, stack, word, number):
        """The param or local of the frame on top holds the number."""
        if word == "" or stack == []:
            return
        function, todo, values, names, target = stack[-1]
        place, _ = self.names.locals[function][word]
        stack[-1] = (function, todo, values[:place] + (number,) + values[place + 1:], names, target)

    def step(self, thread):
        """What a step of the thread shows; None if it is passed by."""
        stack = self.stacks[thread]
        if stack == []:
            return None
        todo = stack[-1][1]
        self.shown = []
        if todo == ():
            self.end_frame(stack, self.fill)
            return ("end", ())
        op = own_op(todo[0])
        if is_held(self.names, self.held, thread, op) or (op[0] == "ask" and not self.is_input(op)):
            return None
        parts = [self.worked(stack, expression) for expression in expressions_of(todo[0])]
        function, _, values, names, target = stack[-1]
        stack[-1] = (function, todo_behind(todo, parts), values, names, target)
        self.do_op(thread, op, [number for _, number in parts])
        return (todo[0][0], tuple(self.shown))

    def is_input(self, op):
        """Whether the next input is there and within the bounds of an "ask"."""
        return self.asked < len(self.inputs) and op[2] <= self.inputs[self.asked] <= op[3]

    def do_op(self, thread, op, numbers):
        """The own op of an instruction."""
        word = op[0]
        stack = self.stacks[thread]
        if word == "let":
            self.put(stack, op[1], numbers[0])
        elif word == "store":
            self.cells[numbers[0]] = numbers[1]
        elif word == "make":
            self.make(stack, op[1], min(max(numbers[0], 1), 16))
        elif word == "away":
            self.go(numbers[0], "made")
        elif word == "ask":
            self.put(stack, op[1], self.inputs[self.asked])
            self.asked += 1
        elif word == "call":
            self.call(stack, op, numbers)
        elif word == "return":
            self.end_frame(stack, numbers[0] if numbers != [] else self.fill)
        elif word == "take":
            self.held[self.names.locks[op[1]]] = thread
        elif word == "leave" and self.held[self.names.locks[op[1]]] == thread:
            self.held[self.names.locks[op[1]]] = None

    def make(self, stack, local, many):
        """A block in the least free slot; null if there is none."""
        free = free_slots(self.lives)
        self.put(stack, local, self.come(free[0], "made", many) if free != [] else 0)

    def call(self, stack, op, numbers):
        """A frame more; the call is passed by if there is no room for it."""
        _, target, word = op
        number = self.names.functions[word]
        head = self.names.heads[number]
        free = free_slots(self.lives)
        if len(stack) == MOST_FRAMES or len(free) < len(head[3]):
            return
        bases = [self.come(slot, "local", many) for slot, (_, _, many) in zip(free, head[3])]
        values = tuple(numbers) + (self.fill,) * len(head[2])
        stack.append((number, head[5], values, tuple(bases), target))

    def end_frame(self, stack, number):
        """The frame on top goes, and its blocks; the target holds the number."""
        _, _, _, bases, target = stack.pop()
        for base in bases:
            self.go(base, "local")
        self.put(stack, target, number)
