"""Bodies of functions judged: statements and expressions, with their sorts."""

from firstwrong.errors import BadTree
from firstwrong.kinds import is_int, is_number_in, is_tuple_of, is_word
from firstwrong.values import is_cell_sort

MOST_NODES = 300
MOST_DEEP = 12
MOST_BODIES = 6

# How many things behind the word a piece has; "return" hangs on the function.
STATEMENTS = {"let": 2, "store": 2, "make": 3, "away": 1, "ask": 3, "give": 1, "if": 3, "while": 2,
              "call": 3, "return": 0, "take": 1, "leave": 1, "test": 1}
LEAVES = ("int", "byte", "null", "local", "shared", "block")
# What sort is wanted of each part: "pointer" is any pointer, "plain" any sort
# but pointers, "any" each sort, "first" that of the first part.
WANTED = {"at": ("pointer",), "on": ("pointer", "int"), "gap": ("pointer", "first"),
          "same": ("any", "first"), "below": ("any", "first"), "sum": ("plain", "first"),
          "less": ("plain", "first"), "times": ("plain", "first"), "share": ("plain", "first"),
          "rest": ("plain", "first"), "wide": ("byte",), "low": ("int",), "not": ("int",),
          "and": ("int", "int"), "or": ("int", "int")}
LIKE_FIRST = ("on", "sum", "less", "times", "share", "rest")


def is_wanted(sort, wanted):
    """Whether an expression of this sort may stand where this is wanted."""
    if wanted == "any":
        return True
    if wanted == "pointer":
        return isinstance(sort, tuple)
    if wanted == "plain":
        return not isinstance(sort, tuple)
    return sort == wanted


def sort_made(word, first):
    """The sort of what a word makes of parts, the first one of this sort."""
    if word == "at":
        return first[1]
    if word in LIKE_FIRST:
        return first
    if word == "low":
        return "byte"
    return "int"


class BodyJudge:
    """Judges the body of one function, or one instruction of it."""

    def __init__(self, names, number):
        self.names = names
        self.result = names.heads[number][4]
        self.locals = names.locals[number]
        self.blocks = names.blocks[number]
        self.count = 0

    def need(self, holds, place):
        """A piece that is wrong is told by its place."""
        if not holds:
            raise BadTree(place)

    def body(self, thing, place, deep):
        """A body, deep being how many are within one another."""
        self.need(isinstance(thing, tuple) and deep <= MOST_BODIES, place)
        for number, statement in enumerate(thing):
            self.statement(statement, place + (number,), deep)

    def node(self, thing, place):
        """What holds of each statement and each expression: it begins with a word."""
        self.count += 1
        self.need(self.count <= MOST_NODES and isinstance(thing, tuple) and len(thing) > 0, place)
        self.need(isinstance(thing[0], str), place)

    def statement(self, thing, place, deep):
        """A statement with all that it bears; "test" is none."""
        self.node(thing, place)
        self.need(thing[0] in STATEMENTS and thing[0] != "test", place)
        if thing[0] in ("if", "while"):
            self.need(len(thing) == STATEMENTS[thing[0]] + 1, place)
            self.expression(thing[1], place + (1,), 1, "int")
            for number in range(2, len(thing)):
                self.body(thing[number], place + (number,), deep + 1)
        else:
            self.plain_statement(thing, place)

    def instruction(self, thing):
        """A statement without bodies, or a "test"."""
        self.node(thing, ())
        self.need(thing[0] in STATEMENTS and thing[0] not in ("if", "while"), ())
        self.plain_statement(thing, ())

    def plain_statement(self, thing, place):
        """A statement that bears no body, known by its word."""
        word = thing[0]
        many = STATEMENTS[word]
        if word == "return" and self.result != "none":
            many = 1
        self.need(len(thing) == many + 1, place)
        if word in ("take", "leave"):
            self.need(is_word(thing[1]) and thing[1] in self.names.locks, place + (1,))
        elif word in ("make", "ask"):
            self.make_or_ask(thing, place)
        elif word == "call":
            self.call(thing, place)
        elif word == "let":
            sort = self.local(thing[1], place + (1,))
            self.expression(thing[2], place + (2,), 1, sort)
        elif word == "store":
            sort = self.expression(thing[1], place + (1,), 1, "pointer")
            self.expression(thing[2], place + (2,), 1, sort[1])
        elif word == "away":
            self.expression(thing[1], place + (1,), 1, "pointer")
        elif many == 1:
            wanted = self.result if word == "return" else "int"
            self.expression(thing[1], place + (1,), 1, wanted)

    def local(self, word, place):
        """The sort of a param or local."""
        self.need(is_word(word) and word in self.locals, place)
        return self.locals[word][1]

    def make_or_ask(self, thing, place):
        """A local, and what is told of the block or of the int."""
        word, local, first, second = thing
        sort = self.local(local, place + (1,))
        if word == "make":
            self.need(isinstance(sort, tuple), place + (1,))
            self.need(is_cell_sort(first) and first == sort[1], place + (2,))
            self.expression(second, place + (3,), 1, "int")
        else:
            self.need(sort == "int", place + (1,))
            self.need(is_int(first), place + (2,))
            self.need(is_int(second) and first <= second, place + (3,))

    def call(self, thing, place):
        """The local, the function, its params; then the local's sort."""
        _, local, word, parts = thing
        empty = isinstance(local, str) and local == ""
        sort = None if empty else self.local(local, place + (1,))
        self.need(is_word(word) and word in self.names.functions, place + (2,))
        head = self.names.heads[self.names.functions[word]]
        self.need(is_tuple_of(parts, len(head[1])), place + (3,))
        for number, part in enumerate(parts):
            self.expression(part, place + (3, number), 1, head[1][number][1])
        self.need(empty or sort == head[4], place)

    def expression(self, thing, place, deep, wanted):
        """An expression that is wanted to be of a sort; its sort comes back."""
        self.need(deep <= MOST_DEEP, place)
        self.node(thing, place)
        if thing[0] in LEAVES:
            self.need(len(thing) == 2, place)
            sort = self.leaf(thing, place + (1,))
        else:
            self.need(thing[0] in WANTED and len(thing) == len(WANTED[thing[0]]) + 1, place)
            sort = self.parts(thing, place, deep)
        self.need(is_wanted(sort, wanted), place)
        return sort

    def parts(self, thing, place, deep):
        """The parts of an expression, from left to right; its sort comes back."""
        first = None
        for number, wanted in enumerate(WANTED[thing[0]]):
            asked = first if wanted == "first" else wanted
            sort = self.expression(thing[number + 1], place + (number + 1,), deep + 1, asked)
            if number == 0:
                first = sort
        return sort_made(thing[0], first)

    def leaf(self, thing, place):
        """The sort of a leaf, place being that of what stands behind its word."""
        word, told = thing
        if word == "int":
            self.need(is_int(told), place)
            return "int"
        if word == "byte":
            self.need(is_number_in(told, 0, 255), place)
            return "byte"
        if word == "null":
            self.need(is_cell_sort(told), place)
            return ("to", told)
        if word == "local":
            return self.local(told, place)
        table = self.names.shared if word == "shared" else self.blocks
        self.need(is_word(told) and told in table, place)
        return ("to", table[told][1])
