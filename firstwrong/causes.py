"""Causes: the sources on which what is seen of a run, or its wrong deed, hangs."""

from firstwrong.bodies import LEAVES, STATEMENTS
from firstwrong.errors import NotNow
from firstwrong.flows import Flow, joined
from firstwrong.ghosts import Ghosts
from firstwrong.parts import expressions_of
from firstwrong.sights import need_sight
from firstwrong.steps import run
from firstwrong.stepviews import StepView, pointers_of
from firstwrong.trees import need_program, pieces


def causes_of(moment, inputs, weaving, sight):
    """The sources on which it hangs what a plain run sees at its last moment."""
    moments, _ = run(moment, inputs, weaving)
    if moments[-1].wrong is not None:
        raise NotNow("wrong")
    need_sight(moment.program, sight)
    flow, ghosts = flow_behind(moments, weaving)
    return tuple(sorted(joined(rows_of_sight(flow, ghosts, moments[-1], sight))))


def flow_behind(moments, weaving):
    """The causes and ghosts at the last one of the moments of a plain run."""
    flow = Flow(moments[0])
    ghosts = Ghosts(moments[0])
    for thread, ahead, after in zip(weaving, moments, moments[1:]):
        ghosts.pass_step(flow, StepView(ahead, thread), after)
    return (flow, ghosts)


def rows_of_sight(flow, ghosts, moment, sight):
    """The causes of what is seen, in some parts."""
    word = sight[0]
    if word == "cell":
        return [flow.shapes[sight[1]], flow.cells.get(sight[1:], {})]
    if word == "block":
        return [flow.shapes[sight[1]]]
    if word == "free":
        return flow.shapes
    if word == "lock":
        return [flow.locks[sight[1]]]
    if word == "asked":
        return [flow.asked]
    if word == "given" and len(sight) == 1:
        return flow.ints + [flow.count]
    if word == "given":
        return [flow.ints[sight[1]] if sight[1] < len(flow.ints) else flow.count]
    if word == "wrong":
        return []
    found = [ghosts.astray[sight[1]]]
    if word != "way":
        table = flow.locals if word == "local" else flow.blocks
        found.append(table.get(sight[1:], {}))
    return found


def wrong_causes(moment, inputs, weaving):
    """The sources on which a run's wrong deed hangs; None if its last step goes right."""
    moments, _ = run(moment, inputs, weaving)
    if len(weaving) == 0 or moments[-1].wrong is None:
        return None
    thread = weaving[-1]
    # Up to the wrong step the run is plain.
    flow, ghosts = flow_behind(moments[:-1], weaving[:-1])
    view = StepView(moments[-2], thread)
    rows = [ghosts.astray[thread], flow.of_worked(thread, view.depth, view.all_worked())]
    if view.fine:
        word = view.next_word()
        if word in ("store", "away"):
            rows.extend([flow.shapes[pointer[0]] for pointer in pointers_of(view.got[:1])])
        elif word == "call":
            rows.extend(flow.shapes)
        elif word in ("take", "leave"):
            rows.append(flow.locks[view.does[1]])
    return tuple(sorted(joined(rows)))


def is_copying(program):
    """Whether a program does nothing but copy: no turn, no block that goes."""
    need_program(program)
    for number in range(len(program.functions)):
        statements = [piece for _, piece in pieces(program, number) if piece[0] in STATEMENTS]
        if not all([is_copy(statement) for statement in statements]):
            return False
    return True


def is_copy(statement):
    """Whether a copying program may have this statement."""
    if statement[0] in ("if", "while", "away"):
        return False
    if statement[0] == "make" and statement[3][0] != "int":
        return False
    return all([is_leaf_or_at(expression) for expression in expressions_of(statement)])


def is_leaf_or_at(expression):
    """A leaf, or "at" of a leaf."""
    return expression[0] in LEAVES or (expression[0] == "at" and expression[1][0] in LEAVES)
