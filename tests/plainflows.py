"""Points 82 to 84 once more, for the tests: word by word, over sets, and with expressions worked out anew."""

from firstwrong.errors import TooMany

NULL = (0, 0, 0)


class GoesWrong(Exception):
    pass


class PlainFlows:
    """The causes at a moment of a run, and the ghosts of each thread and source (the own way among them)."""

    def __init__(self, moment):
        self.moment, self.program = moment, moment.program
        self.functions = {head[0]: (number, head) for number, head in enumerate(self.program.functions)}
        self.cell = {cell: {("cell",) + cell} for cell in self.cells(moment)}
        self.local, self.name = {}, {}
        for thread, stack in enumerate(moment.stacks):
            for depth, frame in enumerate(stack, 1):
                head = self.program.functions[frame[0]]
                for word, _ in head[1] + head[2]:
                    self.local[thread, depth, word] = {("local", thread, depth, word)}
                for word, _, _ in head[3]:
                    self.name[thread, depth, word] = set()
        self.shape = [set() for _ in range(32)]
        self.lock = {word: set() for word in self.program.locks}
        self.asked, self.count, self.ints = set(), set(), [set() for _ in moment.given]
        self.ghosts = [{} for _ in moment.stacks]

    def cells(self, moment):
        return {(slot, (moment.lives[slot] + 1) // 2, offset) for slot, block in moment.memory.items() for offset in range(len(block[2]))}

    def head_at(self, thread, depth):
        return self.program.functions[self.moment.stacks[thread][depth - 1][0]]

    def there(self, pointer):
        return self.moment.lives[pointer[0]] == 2 * pointer[1] - 1

    def many(self, pointer):
        return len(self.moment.memory[pointer[0]][2])

    def need(self, holds):
        if not holds:
            raise GoesWrong

    def work(self, e, thread, depth, causes):
        """The value of an expression; its causes are added."""
        word = e[0]
        if word in ("int", "byte"):
            return e[1]
        if word == "null":
            return NULL
        if word == "shared":
            return ([block[0] for block in self.program.shared].index(e[1]), 1, 0)
        if word == "local":
            causes |= self.local[thread, depth, e[1]]
            head = self.head_at(thread, depth)
            value = self.moment.stacks[thread][depth - 1][2][[row[0] for row in head[1] + head[2]].index(e[1])]
            self.need(value is not None)
            return value
        if word == "block":
            causes |= self.name[thread, depth, e[1]]
            head = self.head_at(thread, depth)
            return self.moment.stacks[thread][depth - 1][3][[row[0] for row in head[3]].index(e[1])] + (0,)
        if word in ("and", "or"):
            first = self.work(e[1], thread, depth, causes) != 0
            if first == (word == "or"):
                return int(first)
            return int(self.work(e[2], thread, depth, causes) != 0)
        values = [self.work(part, thread, depth, causes) for part in e[1:]]
        if word in ("at", "on", "gap", "same", "below"):
            for value in values:
                if isinstance(value, tuple) and value != NULL:
                    causes |= self.shape[value[0]]
            if word == "at":
                causes |= self.cell.get(values[0], set())
        if isinstance(values[0], tuple):
            return self.work_pointers(word, values)
        return self.work_numbers(word, values, self.is_byte(e[1], thread, depth))

    def work_pointers(self, word, values):
        first, second = values[0], values[-1]
        if word == "at":
            self.need(first != NULL and self.there(first) and first[2] < self.many(first))
            value = self.moment.memory[first[0]][2][first[2]]
            self.need(value is not None)
            return value
        if word == "on":
            if first == NULL:
                self.need(second == 0)
                return first
            self.need(self.there(first) and 0 <= first[2] + second <= self.many(first))
            return (first[0], first[1], first[2] + second)
        for value in values:
            self.need(value == NULL or self.there(value))
        if word == "same":
            return int(first == second)
        self.need(first[:2] == second[:2])
        return first[2] - second[2] if word == "gap" else int(first[2] < second[2])

    def work_numbers(self, word, values, byte):
        first, second = values[0], values[-1]
        if word in ("same", "below"):
            return int(first == second if word == "same" else first < second)
        if word in ("wide", "low"):
            return first % 256 if word == "low" else first
        if word == "not":
            return int(first == 0)
        self.need(word not in ("share", "rest") or second != 0)
        if word in ("share", "rest"):
            made = first // second if word == "share" else first - second * (first // second)
        else:
            made = {"sum": first + second, "less": first - second, "times": first * second}[word]
        if byte:
            return made % 256
        self.need(word == "rest" or -2 ** 31 <= made < 2 ** 31)
        return made

    def sort(self, e, thread, depth):
        word = e[0]
        if word in ("int", "byte"):
            return word
        if word == "local":
            head = self.head_at(thread, depth)
            return dict(head[1] + head[2])[e[1]]
        if word == "null":
            return ("to", e[1])
        if word in ("shared", "block"):
            rows = self.program.shared if word == "shared" else self.head_at(thread, depth)[3]
            return ("to", {row[0]: row[1] for row in rows}[e[1]])
        if word == "at":
            return self.sort(e[1], thread, depth)[1]
        if word in ("on", "sum", "less", "times", "share", "rest"):
            return self.sort(e[1], thread, depth)
        return "byte" if word == "low" else "int"

    def is_byte(self, e, thread, depth):
        return self.sort(e, thread, depth) == "byte"

    def expressions(self, statement):
        word = statement[0]
        if word in ("let", "make"):
            return [statement[-1]]
        if word in ("ask", "take", "leave"):
            return []
        if word == "call":
            return list(statement[3])
        return [statement[1]] if word in ("if", "while") else list(statement[1:])

    def uses_frame(self, e):
        return e[0] in ("local", "block") or (e[0] not in ("int", "byte", "null", "shared") and any(self.uses_frame(part) for part in e[1:]))

    def known(self, e, thread, way):
        """The value of an expression in a tuple; () if it is not known."""
        stack = self.moment.stacks[thread]
        if (len(stack) < len(way) or stack[len(way) - 1][0] != way[-1][0]) and self.uses_frame(e):
            return ()
        causes = set()
        try:
            value = self.work(e, thread, len(way), causes)
        except GoesWrong:
            return ()
        return () if causes else (value,)

    def free(self):
        return [slot for slot in range(32) if self.moment.lives[slot] % 2 == 0 and self.moment.lives[slot] < 2 ** 31 - 2]

    def to(self, slot):
        return set().union(*self.shape[:slot + 1])

    def way(self, moment, thread):
        return tuple((frame[0], frame[1], frame[4]) for frame in moment.stacks[thread])

    def behind(self, statement, rest, todo):
        """Both todos behind an "if" or "while": if it holds, and if not."""
        return [statement[2] + rest, statement[3] + rest] if statement[0] == "if" else [statement[2] + todo, rest]

    def on(self, way, thread):
        """The ways on which a ghost goes."""
        if way == ():
            return []
        number, todo, target = way[-1]
        if todo == () or todo[0][0] == "return":
            return [way[:-1]]
        statement, rest = todo[0], todo[1:]
        if statement[0] in ("if", "while"):
            both, value = self.behind(statement, rest, todo), self.known(statement[1], thread, way)
            if value != ():
                both = [both[0] if value[0] != 0 else both[1]]
            return [way[:-1] + ((number, goal, target),) for goal in both]
        passed = way[:-1] + ((number, rest, target),)
        if statement[0] != "call":
            return [passed]
        called, head = self.functions[statement[2]]
        return [passed + ((called, head[5], statement[1]),)] if len(way) < 12 else []

    def writes(self, way, thread, own, values):
        """What the next statement of a way may write."""
        if way == ():
            return []
        number, todo, target = way[-1]
        depth = len(way)
        statement = todo[0] if todo else ("return",)
        word = statement[0]
        found = []
        if word in ("let", "ask", "make"):
            found.append(("local", depth, statement[1]))
        if word == "store":
            pointer = (values[0],) if way == own else self.known(statement[1], thread, way)
            found.append(("cell", pointer[0]) if pointer else ("cells",))
        if word == "make" or (word == "call" and self.functions[statement[2]][1][3]):
            found += [("shape", slot) for slot in self.free()]
        if word == "away":
            found += [("shape", slot) for slot in range(len(self.program.shared), 32)]
        if word == "return":
            found.append(("local", depth - 1, target))
            if self.program.functions[number][3]:
                found += [("shape", slot) for slot, block in self.moment.memory.items() if block[0] == "local"]
        if word in ("take", "leave"):
            found.append(("lock", statement[1]))
        if word in ("ask", "give"):
            found.append((word,))
        if word == "call":
            found.append(("frame", depth + 1))
        return found

    def step(self, thread, after):
        """One step of a plain run."""
        own, behind = self.way(self.moment, thread), self.way(after, thread)
        todo = own[-1][1]
        statement = todo[0] if todo else ("return",)
        causes, values = [], []
        for e in self.expressions(statement):
            causes.append(set())
            values.append(self.work(e, thread, len(own), causes[-1]))
        turning = causes[0] if statement[0] in ("if", "while") else set()
        further, writes = {}, {}
        for source in set(self.ghosts[thread]) | turning:
            ways = self.ghosts[thread].get(source, {own})
            further[source] = {behind} | {goal for way in ways - {own} for goal in self.on(way, thread)}
            if source in turning:
                both = self.behind(statement, todo[1:], todo)
                further[source].add(own[:-1] + ((own[-1][0], both[values[0] != 0], own[-1][2]),))
            if len(further[source]) > 64:
                raise TooMany(64)
            if source in self.ghosts[thread]:
                writes[source] = [what for way in ways for what in self.writes(way, thread, own, values)]
        self.flow(thread, len(own), statement, causes, values, after)
        new_int = len(after.given) > len(self.moment.given)
        for source, rows in writes.items():
            for what in rows:
                self.gain(thread, source, what, new_int)
        self.ghosts[thread] = {source: ways for source, ways in further.items() if ways != {behind}}
        self.moment = after

    def flow(self, thread, depth, statement, causes, values, after):
        """What [82] tells of a step."""
        moment, word = self.moment, statement[0]
        shape = [set(told) for told in self.shape]
        frame = moment.stacks[thread][-1]
        free = self.free()
        if word == "let":
            self.local[thread, depth, statement[1]] = set(causes[0])
        elif word == "store":
            for cell in self.cell:
                if moment.memory[cell[0]][1] == moment.memory[values[0][0]][1]:
                    self.cell[cell] = self.cell[cell] | causes[0]
            self.cell[values[0]] = causes[0] | causes[1]
        elif word == "make":
            self.local[thread, depth, statement[1]] = self.to(free[0] if free else 31)
            for slot in free:
                shape[slot] |= self.to(slot)
            if free:
                shape[free[0]] |= causes[0]
        elif word == "away":
            for slot in range(len(self.program.shared), 32):
                shape[slot] |= causes[0]
        elif word == "ask":
            self.local[thread, depth, statement[1]] = {("input", moment.asked)} | self.asked
        elif word == "give":
            self.ints.append(causes[0] | self.count)
        elif word == "call":
            head = self.functions[statement[2]][1]
            for number, (own, _) in enumerate(head[1] + head[2]):
                self.local[thread, depth + 1, own] = set(causes[number]) if number < len(head[1]) else set()
            for (own, _, _), slot in zip(head[3], free):
                self.name[thread, depth + 1, own] = self.to(slot)
            for slot in free if head[3] else ():
                shape[slot] |= self.to(slot)
        elif word == "return":
            for table in (self.local, self.name):
                for spot in [spot for spot in table if spot[:2] == (thread, depth)]:
                    del table[spot]
            if frame[4]:
                self.local[thread, depth - 1, frame[4]] = set(causes[0]) if causes else set()
        elif word in ("take", "leave"):
            self.lock[statement[1]] = set()
        self.shape = shape
        self.cell = {cell: set(self.cell.get(cell, ())) for cell in self.cells(after)}

    def gain(self, thread, source, what, new_int):
        """What may be written gains the source."""
        word = what[0]
        gaining = []
        if word == "local":
            gaining = [self.local[spot] for spot in self.local if spot == (thread, what[1], what[2])]
        elif word == "cell":
            gaining = [self.cell[cell] for cell in self.cell if cell == what[1]]
        elif word == "cells":
            gaining = list(self.cell.values())
        elif word == "shape":
            gaining = [self.shape[what[1]]]
        elif word == "lock":
            gaining = [self.lock[what[1]]]
        elif word == "ask":
            gaining = [self.asked]
        elif word == "give":
            gaining = [self.count] + (self.ints[-1:] if new_int else [])
        elif word == "frame":
            gaining = [table[spot] for table in (self.local, self.name) for spot in table if spot[:2] == (thread, what[1])]
        for causes in gaining:
            causes.add(source)

    def of_sight(self, sight):
        """The causes of a sight."""
        word = sight[0]
        if word == "cell":
            return self.shape[sight[1]] | self.cell.get(sight[1:], set())
        if word == "block":
            return self.shape[sight[1]]
        if word == "free":
            return self.to(31)
        if word == "lock":
            return self.lock[sight[1]]
        if word == "asked":
            return self.asked
        if word == "given":
            if len(sight) == 1:
                return self.count.union(*self.ints)
            return self.ints[sight[1]] if sight[1] < len(self.ints) else self.count
        if word in ("local", "name"):
            return set(self.ghosts[sight[1]]) | (self.local if word == "local" else self.name).get(sight[1:], set())
        return set(self.ghosts[sight[1]]) if word == "way" else set()

    def of_wrong(self, thread):
        """The causes of a wrong step of this thread."""
        stack = self.moment.stacks[thread]
        statement = stack[-1][1][0]
        found, values = set(self.ghosts[thread]), []
        try:
            for e in self.expressions(statement):
                values.append(self.work(e, thread, len(stack), found))
        except GoesWrong:
            return found
        if statement[0] in ("store", "away") and values[0] != NULL:
            found |= self.shape[values[0][0]]
        if statement[0] == "call":
            found |= self.to(31)
        if statement[0] in ("take", "leave"):
            found |= self.lock[statement[1]]
        return found
