"""What statements and expressions that are let bear: expressions, bodies, todos."""

from firstwrong.bodies import LEAVES


def expressions_of(statement):
    """The expressions of a statement or "test", from left to right."""
    word = statement[0]
    if word in ("let", "make"):
        return (statement[-1],)
    if word in ("store", "away", "give", "return", "test"):
        return statement[1:]
    if word in ("if", "while"):
        return (statement[1],)
    if word == "call":
        return statement[3]
    return ()


def places_of(statement):
    """Where these expressions stand in the statement."""
    word = statement[0]
    if word in ("let", "make"):
        return ((len(statement) - 1,),)
    if word in ("store", "away", "give", "return", "test"):
        return tuple([(number,) for number in range(1, len(statement))])
    if word in ("if", "while"):
        return ((1,),)
    if word == "call":
        return tuple([(3, number) for number in range(len(statement[3]))])
    return ()


def add_expression(found, place, expression):
    """An expression and all within it, as they are judged."""
    found.append((place, expression))
    if expression[0] not in LEAVES:
        for number in range(1, len(expression)):
            add_expression(found, place + (number,), expression[number])


def add_body(found, place, body):
    """All nodes of a body, as they are judged."""
    for number, statement in enumerate(body):
        here = place + (number,)
        found.append((here, statement))
        for spot, expression in zip(places_of(statement), expressions_of(statement)):
            add_expression(found, here + spot, expression)
        if statement[0] in ("if", "while"):
            for spot in range(2, len(statement)):
                add_body(found, here + (spot,), statement[spot])


def behind(todo):
    """The todos behind the first statement of one that is not ()."""
    first = todo[0]
    rest = todo[1:]
    if first[0] == "if":
        return [first[2] + rest, first[3] + rest]
    if first[0] == "while":
        return [first[2] + todo, rest]
    if first[0] == "return":
        return []
    return [rest]


def todos_of(body):
    """All todos of a body, each once, in the sequence in which they are met."""
    found = [body]
    # By lengths, since a todo is nested too deep for a key.
    met = {len(body): [body]}
    done = 0
    while done < len(found):
        todo = found[done]
        done += 1
        if todo == ():
            continue
        for other in behind(todo):
            known = met.setdefault(len(other), [])
            if other not in known:
                known.append(other)
                found.append(other)
    return tuple(found)


def own_op(statement):
    """The own op of a statement; "if" and "while" are tests."""
    word = statement[0]
    if word in ("let", "make", "call"):
        return statement[:-1]
    if word in ("if", "while"):
        return ("test",)
    if word in ("ask", "take", "leave"):
        return statement
    return (word,)
