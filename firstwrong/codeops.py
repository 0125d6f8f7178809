"""Instructions as ops with their checks, and ops read back as instructions."""

from firstwrong.bodies import LEAVES, WANTED, sort_made
from firstwrong.parts import expressions_of, own_op

# The checks ahead of an own op.
AHEAD = {"at": ("null", "gone", "beyond", "kind"), "store": ("null", "gone", "beyond", "kind"),
         "on": ("null", "gone", "beyond"), "gap": ("null", "gone", "unlike"), "make": ("great",),
         "away": ("gone", "away"), "call": ("deep",), "take": ("lock",), "leave": ("lock",)}
# Those that hang on the sort of the parts.
OF_POINTERS = {"below": ("null", "gone", "unlike"), "same": ("gone",)}
OF_INTS = {"sum": ("great",), "less": ("great",), "times": ("great",), "share": ("share", "great"),
           "rest": ("share",)}
OF_BYTES = {"share": ("share",), "rest": ("share",)}
UNSET = ("check", "unset")


def sort_of(names, number, expression):
    """The sort of an expression of a function that is let."""
    word = expression[0]
    if word in ("int", "byte"):
        return word
    if word == "null":
        return ("to", expression[1])
    if word == "local":
        return names.locals[number][expression[1]][1]
    if word == "shared":
        return ("to", names.shared[expression[1]][1])
    if word == "block":
        return ("to", names.blocks[number][expression[1]][1])
    return sort_made(word, sort_of(names, number, expression[1]))


def checks_ahead(word, sort):
    """The checks ahead of an own op whose first part is of this sort."""
    if word in AHEAD:
        words = AHEAD[word]
    elif isinstance(sort, tuple):
        words = OF_POINTERS.get(word, ())
    elif sort == "int":
        words = OF_INTS.get(word, ())
    else:
        words = OF_BYTES.get(word, ())
    return [("check", told) for told in words]


def expression_pairs(names, number, expression):
    """The ops of an expression, with all checks; each beside the expression of which it is."""
    word = expression[0]
    if word in LEAVES:
        return [(op, expression) for op in ([expression, UNSET] if word == "local" else [expression])]
    pairs = expression_pairs(names, number, expression[1])
    if word in ("and", "or"):
        second = expression_pairs(names, number, expression[2])
        return pairs + [((word, len(second)), expression)] + second + [(("truth",), expression)]
    if len(expression) == 3:
        pairs = pairs + expression_pairs(names, number, expression[2])
    sort = sort_of(names, number, expression[1])
    own = (word, sort) if word in OF_INTS else (word,)
    ops = checks_ahead(word, sort) + [own] + ([UNSET] if word == "at" else [])
    return pairs + [(op, expression) for op in ops]


def instruction_pairs(names, number, instruction):
    """The ops of an instruction of a function, with all checks; each beside the piece of which it is."""
    pairs = []
    for expression in expressions_of(instruction):
        pairs = pairs + expression_pairs(names, number, expression)
    return pairs + [(op, instruction) for op in checks_ahead(instruction[0], None) + [own_op(instruction)]]


def instruction_ops(names, number, instruction):
    """The ops of an instruction of a function, with all checks."""
    return [op for op, _ in instruction_pairs(names, number, instruction)]


def kept_ops(ops, kept):
    """The ops whose place is kept; "and", "or" count those that are there."""
    found = []
    for place, op in enumerate(ops):
        if not kept[place]:
            continue
        if op[0] in ("and", "or"):
            op = (op[0], len([1 for there in kept[place + 1:place + 1 + op[1]] if there]))
        found.append(op)
    return tuple(found)


def is_check(op):
    """Whether this op is a check."""
    return op[0] == "check"


class Reader:
    """Reads ops back as an instruction; what it tells must be judged."""

    def __init__(self, names):
        self.names = names
        self.pile = []
        self.waits = []
        self.fine = True

    def take(self, many):
        """So many parts off the pile, () if there are not as many."""
        if len(self.pile) < many:
            self.fine = False
            return ()
        at = len(self.pile) - many
        parts = tuple(self.pile[at:])
        del self.pile[at:]
        return parts

    def op(self, op):
        """One op of an expression that is no check."""
        word = op[0]
        if word in LEAVES:
            self.pile.append(op)
        elif word in ("and", "or"):
            self.waits.append(word)
        elif word == "truth":
            known = self.waits.pop() if self.waits != [] else "truth"
            self.pile.append((known,) + self.take(2))
        elif word in WANTED:
            self.pile.append((word,) + self.take(len(WANTED[word])))
        else:
            self.fine = False

    def last(self, op):
        """The own op of the instruction, which is told."""
        word = op[0]
        if word in ("let", "make"):
            return op + self.take(1)
        if word == "call":
            return op + (self.take(self.many_params(op)),)
        if word in ("ask", "take", "leave"):
            return op
        return op + self.take(len(self.pile))

    def many_params(self, op):
        """How many params the function of a "call" has."""
        word = op[-1]
        if not isinstance(word, str) or word not in self.names.functions:
            return 0
        return len(self.names.heads[self.names.functions[word]][1])


def read_ops(names, ops):
    """The instruction that ops seem to be of, None if there can be none.

    Ops are any tuple; whoever reads them judges the instruction and compares
    its ops with these.
    """
    if ops == () or not all([isinstance(op, tuple) and op != () and isinstance(op[0], str) for op in ops]):
        return None
    reader = Reader(names)
    for op in ops[:-1]:
        if not is_check(op):
            reader.op(op)
    instruction = reader.last(ops[-1])
    if not reader.fine or reader.pile != [] or reader.waits != []:
        return None
    return instruction
