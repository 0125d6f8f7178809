"""Sights: what is seen of a moment at one spot."""

from firstwrong.errors import BadSight
from firstwrong.kinds import is_count, is_one_of, is_tuple_of
from firstwrong.moments import need_moment
from firstwrong.spots import cell_in, is_cell_of, is_local_of, is_thread_of, name_in, plain_cell, value_in
from firstwrong.trees import need_program


def is_sight(program, thing):
    """Whether any value is a sight of a program."""
    need_program(program)
    if is_cell_of(program, thing) or is_local_of(program, "local", thing) or is_local_of(program, "name", thing):
        return True
    if not is_tuple_of(thing, 2):
        return False
    if is_one_of(thing[0], ("given",)):
        return is_count(thing[1])
    return is_one_of(thing[0], ("way",)) and is_thread_of(program, thing[1])


def need_sight(program, sight):
    """Refuses what is no sight."""
    if not is_sight(program, sight):
        raise BadSight("a sight of the program is wanted")


def seen(moment, sight):
    """What is seen of what surely is a moment, by what surely is a sight of its program."""
    word = sight[0]
    if word in ("cell", "local"):
        there = cell_in if word == "cell" else value_in
        found = there(moment, sight[1], sight[2], sight[3])
        return found[0] if found != () else None
    if word == "name":
        return name_in(moment, sight[1], sight[2], sight[3])
    if word == "way":
        return way_of(moment.stacks[sight[1]])
    if word == "given" and len(sight) == 2:
        return moment.given[sight[1]] if sight[1] < len(moment.given) else None
    return plain_cell(moment, sight)


def seen_at(moment, sight):
    """What is seen of a moment by a sight; both are looked at."""
    need_moment(moment)
    need_sight(moment.program, sight)
    return seen(moment, sight)


def way_of(stack):
    """The triples (function, todo, target) of the frames of a stack."""
    return tuple([(function, todo, target) for function, todo, _, _, target in stack])
