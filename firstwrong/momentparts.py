"""The parts of a moment judged: what Moment and CodeMoment have in common."""

from firstwrong.errors import BadMoment
from firstwrong.kinds import is_count, is_int, is_number, is_number_in, is_one_of, is_row, is_tuple_of
from firstwrong.values import is_cell_sort, is_of_sort

WRONG_WORDS = ("unset", "null", "gone", "beyond", "unlike", "kind", "great", "share", "away", "deep",
               "lock")
SLOTS = 32
# A slot whose number comes to this is never taken again.
LAST_LIFE = 2 ** 31 - 2
MOST_FRAMES = 12


class Sure:
    """Lives that stand beside parts which a step made: nothing is judged again."""

    def __init__(self, lives):
        self.lives = lives


def need(holds, part):
    """A part that is wrong is told by its name."""
    if not holds:
        raise BadMoment(part)


def life_now(lives, slot):
    """The life of the block in a slot that is taken."""
    return (lives[slot] + 1) // 2


def is_there(lives, slot, life):
    """Whether the block of this name is there."""
    return lives[slot] == 2 * life - 1


class MomentJudge:
    """Judges the parts of a moment of a program or code, in their sequence.

    whole is a Program or a Code; fits tells of it whether a function, by its
    number, may have this todo (or position).
    """

    def __init__(self, whole, fits):
        self.whole = whole
        self.fits = fits

    def judge(self, lives, memory, held, stacks, asked, given, wrong):
        """The first part that is wrong is told."""
        need(is_row(lives) and len(lives) == SLOTS, "lives")
        need(all([is_number_in(number, 0, LAST_LIFE) for number in lives]), "lives")
        need(self.is_memory(lives, memory), "memory")
        need(self.is_held(held), "held")
        need(self.is_stacks(lives, memory, stacks), "stacks")
        need(is_count(asked), "asked")
        need(isinstance(given, tuple) and all([is_int(number) for number in given]), "given")
        need(wrong is None or self.is_wrong(wrong), "wrong")

    def is_thread(self, thing):
        """Whether this is a thread's number."""
        return is_number_in(thing, 0, len(self.whole.threads) - 1)

    def is_wrong(self, thing):
        """A thread's number and a wrong word."""
        return is_tuple_of(thing, 2) and self.is_thread(thing[0]) and is_one_of(thing[1], WRONG_WORDS)

    def is_held(self, held):
        """Who holds each lock."""
        if not is_tuple_of(held, len(self.whole.locks)):
            return False
        return all([thread is None or self.is_thread(thread) for thread in held])

    def is_memory(self, lives, memory):
        """Just the taken slots have blocks; the shared ones are the first."""
        if not isinstance(memory, dict) or not all([is_number(slot) for slot in memory]):
            return False
        taken = [slot for slot in range(SLOTS) if lives[slot] & 1]
        if sorted(memory) != taken or not all([is_block(block) for block in memory.values()]):
            return False
        shared = self.whole.shared
        for slot in taken:
            how, sort, cells = memory[slot]
            if (how == "shared") != (slot < len(shared)):
                return False
            if how == "shared" and (lives[slot], sort, len(cells)) != (1, shared[slot][1], shared[slot][2]):
                return False
        return len([slot for slot in taken if slot < len(shared)]) == len(shared)

    def is_stacks(self, lives, memory, stacks):
        """A stack for each thread; each local block is named just once."""
        if not is_tuple_of(stacks, len(self.whole.threads)):
            return False
        named = []
        for stack in stacks:
            if not isinstance(stack, tuple) or len(stack) > MOST_FRAMES:
                return False
            below = None
            for frame in stack:
                if not is_tuple_of(frame, 5) or not self.is_frame(frame, below):
                    return False
                head = self.whole.functions[frame[0]]
                if not are_names(lives, memory, frame[3], head[3]):
                    return False
                named = named + [slot for slot, _ in frame[3]]
                below = frame[0]
        return sorted(named) == [slot for slot in sorted(memory) if memory[slot][0] == "local"]

    def is_frame(self, frame, below):
        """A frame but for its names, above one of the function below (or None)."""
        function, todo, values, _, target = frame
        if not is_number_in(function, 0, len(self.whole.functions) - 1):
            return False
        fits = self.fits
        if not fits(self.whole, function, todo):
            return False
        head = self.whole.functions[function]
        sorts = [sort for _, sort in head[1] + head[2]]
        if not is_tuple_of(values, len(sorts)):
            return False
        if not all([item is None or is_of_sort(sort, item) for sort, item in zip(sorts, values)]):
            return False
        return self.is_target(target, below, head[4])

    def is_target(self, target, below, result):
        """Nothing, or a param or local below of the result's sort."""
        if not isinstance(target, str):
            return False
        if target == "":
            return True
        if below is None or target not in self.whole.names.locals[below]:
            return False
        return self.whole.names.locals[below][target][1] == result


def is_block(thing):
    """A triple (how, sort, cells) with values of the sort, or None, in its cells."""
    if not is_tuple_of(thing, 3):
        return False
    how, sort, cells = thing
    if not is_one_of(how, ("shared", "local", "made")) or not is_cell_sort(sort):
        return False
    if not isinstance(cells, tuple) or not 1 <= len(cells) <= 16:
        return False
    return all([cell is None or is_of_sort(sort, cell) for cell in cells])


def are_names(lives, memory, names, blocks):
    """For each block of a function the name of a local block that is like it."""
    if not is_tuple_of(names, len(blocks)):
        return False
    for name, (_, sort, many) in zip(names, blocks):
        if not is_tuple_of(name, 2) or not is_number_in(name[0], 0, SLOTS - 1) or not is_number(name[1]):
            return False
        if not is_there(lives, name[0], name[1]):
            return False
        block = memory[name[0]]
        if block[:2] != ("local", sort) or len(block[2]) != many:
            return False
    return True


class Parts:
    """What moments and code moments have in common."""

    def __init__(self, judge, lives, memory, held, stacks, asked, given, wrong):
        if isinstance(lives, Sure):
            lives = lives.lives
        else:
            judge.judge(lives, memory, held, stacks, asked, given, wrong)
        self.lives = tuple(lives)
        self.memory = {slot: memory[slot] for slot in sorted(memory)}
        self.held = held
        self.stacks = stacks
        self.asked = asked
        self.given = given
        self.wrong = wrong

    def is_like(self, other):
        """Whether all these are equal."""
        if self.lives != other.lives or self.memory != other.memory or self.held != other.held:
            return False
        return (self.stacks == other.stacks and self.asked == other.asked and self.given == other.given
                and self.wrong == other.wrong)
