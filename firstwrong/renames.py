"""Programs and moments with other words for what they name."""

from firstwrong.bodies import LEAVES
from firstwrong.errors import BadMoment, BadNames
from firstwrong.kinds import is_word
from firstwrong.momentparts import Sure
from firstwrong.moments import Moment, need_moment
from firstwrong.trees import Program, need_program, pieces


def program_names(program):
    """The ascending list of all names of a program."""
    need_program(program)
    found = [("shared", block[0]) for block in program.shared]
    found.extend([("lock", word) for word in program.locks])
    for function in program.functions:
        found.append(("function", function[0]))
        found.extend([("local", function[0], row[0]) for row in function[1] + function[2] + function[3]])
    return sorted(found)


class Words:
    """The new word of each name of a program; by functions' numbers for locals and blocks."""

    def __init__(self, program, names):
        self.shared = {block[0]: names.get(("shared", block[0]), block[0]) for block in program.shared}
        self.locks = {word: names.get(("lock", word), word) for word in program.locks}
        self.functions = {head[0]: names.get(("function", head[0]), head[0]) for head in program.functions}
        self.locals = []
        for head in program.functions:
            known = [row[0] for row in head[1] + head[2] + head[3]]
            table = {word: names.get(("local", head[0], word), word) for word in known}
            # The target of a call may be none.
            table[""] = ""
            self.locals.append(table)


def words_of_names(program, names):
    """The new words by a renaming; refuses what is none, or what two of a class share."""
    known = program_names(program)
    if not isinstance(names, dict) or not all([key in known for key in names]):
        raise BadNames(None)
    if not all([is_word(word) for word in names.values()]):
        raise BadNames(None)
    # A class is known by a name without its last word.
    told = {}
    for name in known:
        told.setdefault(name[:-1] + (names.get(name, name[-1]),), []).append(name)
    shared = [name for row in told.values() if len(row) > 1 for name in row]
    if shared != []:
        raise BadNames(min(shared))
    return Words(program, names)


def new_expression(words, number, expression):
    """An expression of a function with the new words."""
    word = expression[0]
    if word == "shared":
        return (word, words.shared[expression[1]])
    if word in ("local", "block"):
        return (word, words.locals[number][expression[1]])
    if word in LEAVES:
        return expression
    return (word,) + new_expressions(words, number, expression[1:])


def new_expressions(words, number, expressions):
    """The same for some expressions."""
    return tuple([new_expression(words, number, expression) for expression in expressions])


def new_statement(words, number, statement):
    """A statement of a function with the new words."""
    word = statement[0]
    own = words.locals[number]
    if word in ("take", "leave"):
        return (word, words.locks[statement[1]])
    if word == "let":
        return (word, own[statement[1]], new_expression(words, number, statement[2]))
    if word == "make":
        return (word, own[statement[1]], statement[2], new_expression(words, number, statement[3]))
    if word == "ask":
        return (word, own[statement[1]]) + statement[2:]
    if word == "call":
        return (word, own[statement[1]], words.functions[statement[2]],
                new_expressions(words, number, statement[3]))
    if word in ("if", "while"):
        bodies = tuple([new_body(words, number, body) for body in statement[2:]])
        return (word, new_expression(words, number, statement[1])) + bodies
    return (word,) + new_expressions(words, number, statement[1:])


def new_body(words, number, body):
    """A body, or todo, of a function with the new words."""
    return tuple([new_statement(words, number, statement) for statement in body])


def renamed(program, names):
    """The program with new words."""
    need_program(program)
    return program_behind(program, words_of_names(program, names))


def program_behind(program, words):
    """The same for what surely are words."""
    shared = sorted([(words.shared[word], sort, many) for word, sort, many in program.shared])
    functions = []
    for number, (word, params, own, blocks, result, body) in enumerate(program.functions):
        table = words.locals[number]
        functions.append((words.functions[word], tuple([(table[row[0]],) + row[1:] for row in params]),
                          tuple([(table[row[0]],) + row[1:] for row in own]),
                          tuple([(table[row[0]],) + row[1:] for row in blocks]), result,
                          new_body(words, number, body)))
    return Program((tuple(shared), tuple(sorted(list(words.locks.values()))), tuple(functions),
                    tuple([words.functions[word] for word in program.threads])))


def moved_value(value, slots):
    """A value; a pointer to a shared block leads to its new slot."""
    if not isinstance(value, tuple) or value[1] < 1 or value[0] >= len(slots):
        return value
    return (slots[value[0]],) + value[1:]


def renamed_moment(program, moment, names):
    """The moment of the renamed program."""
    need_program(program)
    need_moment(moment)
    if moment.program != program:
        raise BadMoment("program")
    words = words_of_names(program, names)
    other = program_behind(program, words)
    slots = [other.names.shared[words.shared[block[0]]][0] for block in program.shared]
    memory = {}
    for slot, (how, sort, cells) in moment.memory.items():
        here = slots[slot] if slot < len(slots) else slot
        memory[here] = (how, sort, tuple([moved_value(value, slots) for value in cells]))
    holders = {words.locks[word]: thread for word, thread in zip(program.locks, moment.held)}
    stacks = tuple([new_stack(words, stack, slots) for stack in moment.stacks])
    return Moment(other, Sure(moment.lives), memory, tuple([holders[word] for word in other.locks]), stacks,
                  moment.asked, moment.given, moment.wrong)


def new_stack(words, stack, slots):
    """A stack with the new words; a target is a word of the frame below."""
    found = []
    below = None
    for number, todo, values, names, target in stack:
        told = target if below is None else words.locals[below][target]
        found.append((number, new_body(words, number, todo),
                      tuple([moved_value(value, slots) for value in values]), names, told))
        below = number
    return tuple(found)


def names_back(program, names):
    """The renaming that leads back."""
    need_program(program)
    words = words_of_names(program, names)
    found = {}
    for name in program_names(program):
        word = names.get(name, name[-1])
        if name[0] == "local":
            found[("local", words.functions[name[1]], word)] = name[-1]
        else:
            found[(name[0], word)] = name[-1]
    return {key: found[key] for key in sorted(found)}


def names_between(program, other):
    """A renaming with which the program becomes the other one; None if there is none."""
    need_program(program)
    need_program(other)
    found = used_words(program, other)
    for name, word in left_words(program, other, found):
        found[name] = word
    known = program_names(program)
    if sorted(found) != known:
        return None
    names = {name: found[name] for name in known}
    try:
        return names if renamed(program, names) == other else None
    except BadNames:
        return None


def used_words(program, other):
    """The new words of what is known by its place, or by a place where it is used."""
    found = {}
    for number, (one, two) in enumerate(zip(program.functions, other.functions)):
        found.setdefault(("function", one[0]), two[0])
        for part in (1, 2, 3):
            for row, told in zip(one[part], two[part]):
                found.setdefault(("local", one[0], row[0]), told[0])
        for (_, piece), (_, told) in zip(pieces(program, number), pieces(other, number)):
            if piece[0] == told[0] == "shared":
                found.setdefault(("shared", piece[1]), told[1])
            if piece[0] in ("take", "leave") and told[0] == piece[0]:
                found.setdefault(("lock", piece[1]), told[1])
    return found


def left_words(program, other, found):
    """Those that no place tells, paired in their sequence: shared blocks of one form, locks."""
    taken = [(name[0], word) for name, word in found.items()]
    pairs = []
    free = [block for block in other.shared if ("shared", block[0]) not in taken]
    for word, sort, many in program.shared:
        alike = [block for block in free if block[1:] == (sort, many)]
        if ("shared", word) not in found and alike != []:
            pairs.append((("shared", word), alike[0][0]))
            free.remove(alike[0])
    locks = [word for word in other.locks if ("lock", word) not in taken]
    mine = [word for word in program.locks if ("lock", word) not in found]
    pairs.extend([(("lock", word), told) for word, told in zip(mine, locks)])
    return pairs
