"""Programs as trees: whether a value is one, and what its bodies are made of."""

from firstwrong.errors import BadNumber, BadTree
from firstwrong.judging import judge_tree
from firstwrong.kinds import is_number_in
from firstwrong.parts import add_body, todos_of


class Program:
    """A program, made of a tree that is let."""

    def __init__(self, tree):
        # The tables of names are kept for all who look words up.
        self.names = judge_tree(tree)
        self.shared, self.locks, self.functions, self.threads = tree
        self.todos = tuple([todos_of(function[5]) for function in self.functions])

    def __eq__(self, other):
        if not isinstance(other, Program):
            return False
        return (self.shared == other.shared and self.locks == other.locks
                and self.functions == other.functions and self.threads == other.threads)


def is_tree(thing):
    """Whether any value is the tree of a program."""
    try:
        judge_tree(thing)
    except BadTree:
        return False
    return True


def need_program(program):
    """Refuses what is no Program."""
    if not isinstance(program, Program):
        raise BadTree(None)


def tree_of(program):
    """The quadruple that the program was made of."""
    need_program(program)
    return (program.shared, program.locks, program.functions, program.threads)


def pieces(program, function):
    """The pairs (place, piece) of the nodes of a body, as they are judged."""
    need_program(program)
    if not is_number_in(function, 0, len(program.functions) - 1):
        raise BadNumber("function")
    found = []
    add_body(found, (), program.functions[function][5])
    return found


def nodes(program, function):
    """How many nodes the body of a function has."""
    return len(pieces(program, function))
