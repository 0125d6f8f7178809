"""Checked code: heads, lines of ops, and the checks that may be left out."""

from firstwrong.bodies import BodyJudge
from firstwrong.codeops import instruction_ops, is_check, kept_ops, read_ops
from firstwrong.errors import BadCheck, BadCode, BadNumber, BadTree
from firstwrong.kinds import is_number, is_number_in, is_row, is_same, is_tuple_of
from firstwrong.names import Names
from firstwrong.parts import behind
from firstwrong.trees import is_tree, need_program

MOST_LINES = 400


class SureLines:
    """Lines that this package made of instructions: neither they nor the head are judged again."""

    def __init__(self, lines, instructions):
        self.lines = lines
        self.instructions = instructions


class Code:
    """The code of a program, some checks left out."""

    def __init__(self, head, lines):
        sure = isinstance(lines, SureLines)
        if not sure and not is_head(head):
            raise BadCode("head")
        self.head = head
        self.shared, self.locks, self.functions, self.threads = head
        self.names = Names(self.shared, self.locks, self.functions)
        # The instructions are kept: who leaves checks out or puts them back wants them.
        if sure:
            self.lines = lines.lines
            self.instructions = lines.instructions
        elif are_lines(lines, len(self.functions)):
            self.lines = lines
            self.instructions = tuple([self.told_by(number, rows) for number, rows in enumerate(lines)])
        else:
            raise BadCode("lines")

    def told_by(self, number, rows):
        """The instructions of a function's lines; the first that is none is told."""
        found = []
        for position, line in enumerate(rows):
            instruction = instruction_told(self.names, number, line, len(rows))
            if instruction is None:
                raise BadCode((number, position))
            found.append(instruction)
        return tuple(found)

    def __eq__(self, other):
        if not isinstance(other, Code):
            return False
        return self.head == other.head and self.lines == other.lines


def is_head(thing):
    """Whether any value is a head: a tree if its functions get bodies."""
    if not is_tuple_of(thing, 4):
        return False
    shared, locks, heads, threads = thing
    if not isinstance(heads, tuple) or not all([is_tuple_of(head, 5) for head in heads]):
        return False
    return is_tree((shared, locks, tuple([head + ((),) for head in heads]), threads))


def are_lines(thing, many):
    """A tuple of so many tuples that are not too long."""
    if not is_tuple_of(thing, many):
        return False
    return all([isinstance(rows, tuple) and len(rows) <= MOST_LINES for rows in thing])


def instruction_told(names, number, line, end):
    """The instruction of what may be a line of a function, None if it is none."""
    if not is_tuple_of(line, 2) or not isinstance(line[0], tuple) or not isinstance(line[1], tuple):
        return None
    ops, goals = line
    instruction = read_ops(names, ops)
    if instruction is None or not is_instruction(names, number, instruction):
        return None
    if len(goals) != goals_of(instruction) or not all([is_number_in(goal, 0, end) for goal in goals]):
        return None
    every = instruction_ops(names, number, instruction)
    if not is_same(ops, kept_ops(every, kept_of(every, ops))):
        return None
    return instruction


def is_instruction(names, number, thing):
    """Whether this is an instruction of a function."""
    try:
        BodyJudge(names, number).instruction(thing)
    except BadTree:
        return False
    return True


def goals_of(instruction):
    """How many goals a line of this instruction (or own op) has."""
    if instruction[0] == "test":
        return 2
    if instruction[0] == "return":
        return 0
    return 1


def kept_of(every, ops):
    """Which of all ops are among these; what is no check counts as kept."""
    kept = []
    place = 0
    for op in every:
        there = not is_check(op) or (place < len(ops) and is_same(ops[place], op))
        kept.append(there)
        place += 1 if there else 0
    return kept


def need_code(code):
    """Refuses what is no Code."""
    if not isinstance(code, Code):
        raise BadCode(None)


def code_of(program):
    """The code of a program, with all checks."""
    need_program(program)
    heads = tuple([function[:5] for function in program.functions])
    lines = []
    instructions = []
    for number, todos in enumerate(program.todos):
        kept = [todo for todo in todos if todo != ()]
        told = tuple([first_instruction(todo) for todo in kept])
        instructions.append(told)
        lines.append(tuple([(full_ops(program.names, number, instruction), goals_behind(todo, kept))
                            for instruction, todo in zip(told, kept)]))
    head = (program.shared, program.locks, heads, program.threads)
    return Code(head, SureLines(tuple(lines), tuple(instructions)))


def first_instruction(todo):
    """The first statement of a todo, as an instruction."""
    first = todo[0]
    if first[0] in ("if", "while"):
        return ("test", first[1])
    return first


def goals_behind(todo, todos):
    """The positions of the todos behind one; the end stands for ()."""
    return tuple([todos.index(goal) if goal != () else len(todos) for goal in behind(todo)])


def full_ops(names, number, instruction):
    """The ops of an instruction with all checks, as a line has them."""
    return tuple(instruction_ops(names, number, instruction))


def instruction_of(code, function, position):
    """The instruction of a line."""
    need_code(code)
    if not is_number_in(function, 0, len(code.lines) - 1):
        raise BadNumber("function")
    if not is_number_in(position, 0, len(code.lines[function]) - 1):
        raise BadNumber("position")
    return code.instructions[function][position]


def checks_of(code):
    """The ascending list of the triples (function, position, spot) of the checks."""
    need_code(code)
    found = []
    for number, rows in enumerate(code.lines):
        for position, (ops, _) in enumerate(rows):
            found.extend([(number, position, spot) for spot, op in enumerate(ops) if is_check(op)])
    return found


def without(code, some):
    """The code without these checks."""
    need_code(code)
    known = set(checks_of(code))
    if not is_row(some) or not all([is_check_name(name) for name in some]):
        raise BadCheck("checks are told by triples of numbers")
    left_out = set(some)
    if len(left_out) != len(some) or not all([name in known for name in some]):
        raise BadCheck("each check of the code is left out once")
    lines = []
    for number, rows in enumerate(code.lines):
        lines.append(tuple([
            (kept_ops(ops, [(number, position, spot) not in left_out for spot in range(len(ops))]), goals)
            for position, (ops, goals) in enumerate(rows)]))
    return Code(code.head, SureLines(tuple(lines), code.instructions))


def is_check_name(thing):
    """A triple of numbers."""
    return is_tuple_of(thing, 3) and all([is_number(part) for part in thing])


def full(code):
    """The code with all checks."""
    need_code(code)
    lines = []
    for number, rows in enumerate(code.lines):
        told = code.instructions[number]
        lines.append(tuple([(full_ops(code.names, number, instruction), goals)
                            for instruction, (_, goals) in zip(told, rows)]))
    return Code(code.head, SureLines(tuple(lines), code.instructions))
