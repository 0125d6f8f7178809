"""Programs written as lines of a text."""

from firstwrong.parts import expressions_of

# How strongly what has two sides binds, its sign, and how strongly its sides must.
SIDES = {"or": (1, "or", 1, 2), "and": (2, "and", 2, 3), "same": (4, "==", 5, 5), "below": (4, "<", 5, 5),
         "sum": (5, "+", 5, 6), "on": (5, "+", 5, 6), "less": (5, "-", 5, 6), "gap": (5, "-", 5, 6),
         "times": (6, "*", 6, 7), "share": (6, "/", 6, 7), "rest": (6, "rest", 6, 7)}
NOT = 3
AT = 7
STRONGEST = 8
SIGNS = {"local": "@", "shared": "$", "block": "&"}


def sort_text(sort):
    """A sort."""
    if isinstance(sort, tuple):
        return sort_text(sort[1]) + "*"
    return sort


def strength(expression):
    """How strongly an expression binds."""
    word = expression[0]
    if word in SIDES:
        return SIDES[word][0]
    if word == "not":
        return NOT
    return AT if word == "at" and expression[1][0] != "on" else STRONGEST


def within(expression, least):
    """An expression where it must bind so strongly; in brackets if it does not."""
    text = expression_text(expression)
    return text if strength(expression) >= least else f"({text})"


def expression_text(expression):
    """An expression."""
    word = expression[0]
    if word in SIGNS:
        return SIGNS[word] + expression[1]
    if word == "int":
        return str(expression[1])
    if word == "byte":
        return f"byte {expression[1]}"
    if word == "null":
        return f"null({sort_text(expression[1])})"
    if word in ("wide", "low"):
        kind = "int" if word == "wide" else "byte"
        return f"{kind}({expression_text(expression[1])})"
    if word == "not":
        return f"not {within(expression[1], NOT)}"
    if word == "at":
        return at_text(expression[1])
    _, sign, left, right = SIDES[word]
    return f"{within(expression[1], left)} {sign} {within(expression[2], right)}"


def at_text(pointer):
    """The "at" of a pointer; with square brackets if it is an "on"."""
    if pointer[0] == "on":
        return f"{within(pointer[1], STRONGEST)}[{expression_text(pointer[2])}]"
    return f"*{within(pointer, AT)}"


def statement_text(statement):
    """The line at which a statement begins."""
    word = statement[0]
    if word in ("take", "leave"):
        return f"{word} {statement[1]}"
    if word == "let":
        return f"@{statement[1]} = {expression_text(statement[2])}"
    if word == "store":
        return f"{at_text(statement[1])} = {expression_text(statement[2])}"
    if word == "make":
        return f"@{statement[1]} = make {sort_text(statement[2])}[{expression_text(statement[3])}]"
    if word == "ask":
        return f"@{statement[1]} = ask({statement[2]}, {statement[3]})"
    if word == "call":
        parts = ", ".join([expression_text(part) for part in statement[3]])
        target = "" if statement[1] == "" else f"@{statement[1]} = "
        return f"{target}call {statement[2]}({parts})"
    return " ".join([word] + [expression_text(part) for part in expressions_of(statement)])


def body_lines(found, body, indent):
    """The lines of a body."""
    for statement in body:
        found.append(indent + statement_text(statement))
        if statement[0] in ("if", "while"):
            body_lines(found, statement[2], indent + "  ")
            if statement[0] == "if" and statement[3] != ():
                found.append(indent + "else")
                body_lines(found, statement[3], indent + "  ")
            found.append(indent + "end")


def head_lines(found, function):
    """The lines of a head."""
    word, params, own, blocks, result, _ = function
    told = ", ".join([f"{sort_text(sort)} {param}" for param, sort in params])
    gives = "" if result == "none" else f" gives {sort_text(result)}"
    found.append(f"function {word}({told}){gives}")
    found.extend([f"  {sort_text(sort)} {local}" for local, sort in own])
    found.extend([f"  {sort_text(sort)} {block}[{many}]" for block, sort, many in blocks])
    found.append("end")


def program_lines(program):
    """All lines of a program."""
    found = [f"shared {sort_text(sort)} {word}[{many}]" for word, sort, many in program.shared]
    found.extend([f"lock {word}" for word in program.locks])
    for function in program.functions:
        head_lines(found, function)
    for function in program.functions:
        if function[5] != ():
            found.append(f"body {function[0]}")
            body_lines(found, function[5], "  ")
            found.append("end")
    found.extend([f"thread {word}" for word in program.threads])
    return found
