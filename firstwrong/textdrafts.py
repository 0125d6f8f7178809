"""Functions as their lines tell them, with the sorts of what is read in their bodies."""

from firstwrong.bodies import LEAVES, WANTED, is_wanted, sort_made
from firstwrong.parts import add_expression
from firstwrong.textforms import WrongLine

# What hangs on the sort of the first part: what it is for pointers, and for others.
BY_SORT = {"plus": ("on", "sum"), "minus": ("gap", "less")}


class Draft:
    """A function, while its lines are read.

    sorts tells of params and locals, cells of blocks; count is how many nodes
    the body has, done tells whether a "body" came.
    """

    def __init__(self, word, params, result):
        self.word = word
        self.params = params
        self.own = []
        self.blocks = []
        self.result = result
        self.sorts = dict(params)
        self.cells = {}
        self.statements = ()
        self.count = 0
        self.done = False

    def has_word(self, word):
        """Whether a param, local or block has this word."""
        return word in self.sorts or word in self.cells

    def add_local(self, word, sort):
        """One local more."""
        self.own.append((word, sort))
        self.sorts[word] = sort

    def add_block(self, word, sort, many):
        """One block more."""
        self.blocks.append((word, sort, many))
        self.cells[word] = sort

    def function(self):
        """The sextuple of a tree."""
        return (self.word, self.params, tuple(self.own), tuple(self.blocks), self.result, self.statements)


def words_in(expression):
    """The pairs (kind, word) of what an expression names."""
    found = []
    add_expression(found, (), expression)
    return [piece for _, piece in found if piece[0] in ("local", "shared", "block")]


class Sorter:
    """Puts expressions of a function in their last form, with their sorts."""

    def __init__(self, shared, draft):
        self.shared = shared
        self.draft = draft

    def wanted(self, expression, wanted):
        """The expression, which must be of a sort (or "pointer")."""
        told, sort = self.sorted_one(expression)
        if not is_wanted(sort, wanted):
            raise WrongLine("sort")
        return told

    def pointer(self, expression):
        """The expression, which must be a pointer, and the sort of what it points to."""
        told, sort = self.sorted_one(expression)
        if not isinstance(sort, tuple):
            raise WrongLine("sort")
        return (told, sort[1])

    def sorted_one(self, expression):
        """The expression and its sort."""
        word = expression[0]
        if word in LEAVES:
            return (expression, self.sort_of_leaf(expression))
        first, sort = self.sorted_one(expression[1])
        if word in BY_SORT:
            word = BY_SORT[word][0 if isinstance(sort, tuple) else 1]
        told = [word, first]
        if not is_wanted(sort, WANTED[word][0]):
            raise WrongLine("sort")
        for part, wanted in zip(expression[2:], WANTED[word][1:]):
            told.append(self.wanted(part, sort if wanted == "first" else wanted))
        return (tuple(told), sort_made(word, sort))

    def sort_of_leaf(self, leaf):
        """The sort of a leaf, whose word is known."""
        word, told = leaf
        if word in ("int", "byte"):
            return word
        if word == "local":
            return self.draft.sorts[told]
        if word == "null":
            return ("to", told)
        return ("to", self.shared[told] if word == "shared" else self.draft.cells[told])
