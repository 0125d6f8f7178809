"""All runs searched: least wrong ones, and tuples of shapes that no step leaves."""

from firstwrong.errors import BadInputs, BadMoment, BadNumber, BadStory, TooMany
from firstwrong.kinds import is_int, is_number_in, is_row, is_tuple_of
from firstwrong.momentbytes import moment_bytes
from firstwrong.moments import Moment, need_moment
from firstwrong.shapes import is_young, shape_of
from firstwrong.steps import step_of
from firstwrong.stories import MOST_ENTRIES
from firstwrong.treesteps import todo_op
from firstwrong.turns import why_not

MOST_VALUES = 8
MOST_STEPS = 64
MOST_WIDE = 2048
MOST_SHAPES = 4096


def need_search(start, values):
    """Refuses what no search can be told by."""
    need_moment(start)
    if not is_young(start):
        raise BadMoment("young")
    if not is_row(values) or len(values) > MOST_VALUES or not all([is_int(value) for value in values]):
        raise BadInputs("at most 8 ints are wanted")
    if not all([one < other for one, other in zip(values, values[1:])]):
        raise BadInputs("ints must ascend")


def turns_on(shape, values):
    """The turns that can be done at a shape, ascending, with the moments behind them."""
    found = []
    for thread in range(len(shape.stacks)):
        if why_not(shape.program.names, shape, thread, todo_op) is not None:
            continue
        asks = todo_op(shape, thread)[0] == "ask"
        for value in values if asks else (None,):
            try:
                after, _ = step_of(shape, thread, () if value is None else (value,))
            except BadInputs:
                continue
            found.append(((thread, value), after))
    return found


def least_wrong(start, values, many):
    """The turns of the least run that goes wrong with its last step; None if there is none."""
    need_search(start, values)
    if not is_number_in(many, 0, MOST_STEPS):
        raise BadNumber("many")
    row = [((), shape_of(start))]
    for _ in range(many):
        wrong, row = row_behind(row, values)
        if wrong is not None:
            return wrong
        if len(row) > MOST_WIDE:
            raise TooMany(MOST_WIDE)
    return None


def row_behind(row, values):
    """The least turns by which a step behind these goes wrong (or None), and the pairs of
    turns and shapes one step further: each shape once, with the least turns that lead there."""
    met = set()
    further = []
    for turns, shape in row:
        for turn, after in turns_on(shape, values):
            if after.wrong is not None:
                return (turns + (turn,), [])
            reached = shape_of(after)
            key = moment_bytes(reached)
            if key not in met:
                met.add(key)
                further.append((turns + (turn,), reached))
    return (None, further)


def is_turn(thing):
    """Whether any value is a pair (thread, input)."""
    if not is_tuple_of(thing, 2) or not is_number_in(thing[0], 0, 3):
        return False
    return thing[1] is None or is_int(thing[1])


def story_of(turns):
    """The story of turns, for a start with nothing asked."""
    if not is_row(turns) or len(turns) > MOST_ENTRIES or not all([is_turn(turn) for turn in turns]):
        raise BadStory("a list of turns is wanted")
    return (tuple([told for _, told in turns if told is not None]), tuple([thread for thread, _ in turns]))


def closed_shapes(start, values):
    """The shapes of all moments that come from a start; None if something is wrong at one."""
    need_search(start, values)
    return shapes_from(start, values)


def shapes_from(start, values):
    """The same for what surely is right."""
    if start.wrong is not None:
        return None
    found = [shape_of(start)]
    met = set()
    met.add(moment_bytes(found[0]))
    done = 0
    while done < len(found):
        turns = turns_on(found[done], values)
        for _, after in turns:
            if after.wrong is not None:
                return None
            shape = shape_of(after)
            key = moment_bytes(shape)
            if key not in met:
                met.add(key)
                found.append(shape)
            if len(found) > MOST_SHAPES:
                raise TooMany(MOST_SHAPES)
        done += 1
    return tuple(found)


def is_closed(start, values, thing):
    """Whether any value is a tuple of shapes, that of the start among them, that no step leaves."""
    need_search(start, values)
    if not isinstance(thing, tuple) or not all([is_right_shape(start, shape) for shape in thing]):
        return False
    known = {moment_bytes(shape): True for shape in thing}
    if len(known) < len(thing) or moment_bytes(shape_of(start)) not in known:
        return False
    for shape in thing:
        for _, after in turns_on(shape, values):
            if after.wrong is not None or moment_bytes(shape_of(after)) not in known:
                return False
    return True


def is_right_shape(start, thing):
    """Whether any value is a moment of the start's program that is its own shape, with nothing wrong."""
    if not isinstance(thing, Moment) or thing.program != start.program or thing.wrong is not None:
        return False
    return shape_of(thing) == thing


def stuck_shapes(start, values):
    """The shapes at which a thread has not ended and none can be stepped; None as in closed_shapes."""
    need_search(start, values)
    found = shapes_from(start, values)
    if found is None:
        return None
    return tuple([shape for shape in found if is_stuck(shape, values)])


def is_stuck(shape, values):
    """Whether a thread has not ended, and no thread can be stepped."""
    return any([stack != () for stack in shape.stacks]) and turns_on(shape, values) == []
