"""Codes as rows of bytes."""

from firstwrong.codes import Code, goals_of, is_head, need_code
from firstwrong.errors import BadBytes, BadCode
from firstwrong.kinds import is_byte_row
from firstwrong.momentparts import WRONG_WORDS
from firstwrong.names import Names
from firstwrong.rowreader import RowReader
from firstwrong.rows import low_bytes
from firstwrong.values import CELL_SORTS

WORDS = ("check", "int", "byte", "null", "local", "shared", "block", "at", "on", "gap", "same", "below",
         "sum", "less", "times", "share", "rest", "wide", "low", "not", "and", "or", "truth", "let",
         "store", "make", "away", "ask", "give", "test", "call", "return", "take", "leave")
# What an op tells behind its word, in its sequence.
TELLS = {"check": ("wrong",), "int": ("int",), "byte": ("byte",), "null": ("sort",), "local": ("local",),
         "shared": ("shared",), "block": ("block",), "sum": ("sort",), "less": ("sort",),
         "times": ("sort",), "share": ("sort",), "rest": ("sort",), "and": ("many",), "or": ("many",),
         "let": ("local",), "make": ("local", "sort"), "ask": ("local", "int", "int"),
         "call": ("local", "function"), "take": ("lock",), "leave": ("lock",)}
NO_LOCAL = 255


class Tables:
    """What each byte of a function's ops stands for."""

    def __init__(self, names, number):
        self.rows = {"wrong": WRONG_WORDS, "sort": CELL_SORTS, "local": tuple(list(names.locals[number])),
                     "shared": tuple(list(names.shared)), "block": tuple(list(names.blocks[number])),
                     "function": tuple(list(names.functions)), "lock": tuple(list(names.locks))}

    def bytes_of(self, kind, told):
        """What an op tells, as bytes."""
        if kind == "int":
            return low_bytes(told, 4)
        if kind == "many":
            return low_bytes(told, 2)
        if kind == "byte":
            return (told,)
        if kind == "local" and told == "":
            return (NO_LOCAL,)
        return (self.rows[kind].index(told),)

    def told(self, kind, reader):
        """What the next bytes tell."""
        if kind == "int":
            return reader.read_int()
        if kind == "many":
            return reader.read_number(2, 2 ** 16 - 1)
        if kind == "byte":
            return reader.read_number(1, 255)
        rows = self.rows[kind]
        number = reader.read_number(1, NO_LOCAL if kind == "local" else len(rows) - 1)
        if kind == "local" and number >= len(rows):
            # Code judges where there may be no local, and what is beyond.
            return "" if number == NO_LOCAL else None
        return rows[number]


def code_bytes(code):
    """The bytes of a code."""
    need_code(code)
    found = []
    for number, rows in enumerate(code.lines):
        tables = Tables(code.names, number)
        found.extend(low_bytes(len(rows), 2))
        for ops, goals in rows:
            found.extend(low_bytes(len(ops), 2))
            for op in ops:
                found.extend(op_bytes(tables, op))
            for goal in goals:
                found.extend(low_bytes(goal, 2))
    return tuple(found)


def op_bytes(tables, op):
    """The bytes of an op."""
    found = [WORDS.index(op[0])]
    for kind, told in zip(TELLS.get(op[0], ()), op[1:]):
        found.extend(tables.bytes_of(kind, told))
    return found


def code_of_bytes(head, thing):
    """The code with this head that has these bytes."""
    if not is_head(head):
        raise BadCode("head")
    if not is_byte_row(thing):
        raise BadBytes(None)
    names = Names(head[0], head[1], head[2])
    reader = RowReader(thing)
    try:
        lines = tuple([lines_read(reader, Tables(names, number)) for number in range(len(head[2]))])
        reader.end()
        return Code(head, lines)
    except (BadBytes, BadCode):
        raise BadBytes(None) from None


def lines_read(reader, tables):
    """The lines of a function."""
    return tuple([line_read(reader, tables) for _ in range(reader.read_number(2, 2 ** 16 - 1))])


def line_read(reader, tables):
    """A line; Code judges whether it is one."""
    ops = tuple([op_read(reader, tables) for _ in range(reader.read_number(2, 2 ** 16 - 1))])
    if ops == ():
        raise BadBytes(None)
    many = goals_of(ops[-1])
    return (ops, tuple([reader.read_number(2, 2 ** 16 - 1) for _ in range(many)]))


def op_read(reader, tables):
    """An op."""
    word = WORDS[reader.read_number(1, len(WORDS) - 1)]
    return (word,) + tuple([tables.told(kind, reader) for kind in TELLS.get(word, ())])
