"""What a step works out, expression by expression, seen from outside.

What is worked out of an expression is a list of triples (expression, parts,
value), parts and value pairs (sort, value): one for each expression within it
that is worked out, in the sequence in which this is done. The value of the
last one is None if it goes wrong.
"""

from firstwrong.bodies import LEAVES
from firstwrong.doings import GoneWrong, View
from firstwrong.parts import expressions_of
from firstwrong.slots import Slots
from firstwrong.values import NULL
from firstwrong.working import leaf, made, settles, truth

# What looks at the blocks of the pointers among its parts.
LOOKING = ("at", "on", "gap", "same", "below")


def work(view, found, expression):
    """Works an expression out; all that is worked out is added to found.

    The pair (sort, value) comes back, None if it goes wrong.
    """
    word = expression[0]
    parts = []
    if word not in LEAVES:
        for part in expression[1:]:
            value = work(view, found, part)
            if value is None:
                return None
            parts.append(value)
            if word in ("and", "or") and settles(word, value[1]):
                break
    value = made_of(view, expression, parts)
    found.append((expression, parts, value))
    return value


def made_of(view, expression, parts):
    """What an expression makes of its parts; None if that goes wrong."""
    word = expression[0]
    if word in ("and", "or"):
        return truth(parts[-1][1])
    try:
        return leaf(view, expression) if word in LEAVES else made(view, word, parts)
    except GoneWrong:
        return None


def view_of(moment, stack):
    """What expressions are worked out with, for the frame on top of a stack."""
    return View(moment.program.names, Slots(moment.lives, moment.memory), stack)


def pointers_of(parts):
    """The pointers among parts that are not null."""
    return [value for sort, value in parts if isinstance(sort, tuple) and value != NULL]


class StepView:
    """What a thread does next at a moment.

    does is the statement (None if the todo is ()), rows has what is worked out of
    each of its expressions, up to the one that goes wrong; got their values, fine
    tells whether none does.
    """

    def __init__(self, moment, thread):
        self.moment = moment
        self.thread = thread
        stack = moment.stacks[thread]
        self.depth = len(stack)
        self.frame = stack[-1]
        todo = self.frame[1]
        self.does = todo[0] if todo != () else None
        self.head = moment.program.functions[self.frame[0]]
        self.rows = []
        self.got = []
        self.fine = True
        view = view_of(moment, stack)
        for expression in expressions_of(self.does) if todo != () else ():
            found = []
            value = work(view, found, expression)
            self.rows.append(found)
            self.fine = value is not None
            if not self.fine:
                break
            self.got.append(value)

    def all_worked(self):
        """All that is worked out, in one list."""
        return [row for found in self.rows for row in found]

    def next_word(self):
        """The statement's word; "return" for a todo that is ()."""
        return "return" if self.does is None else self.does[0]
