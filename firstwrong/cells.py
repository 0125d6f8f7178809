"""Cells and looks: what a past shows at its places, and which deeds set it."""

from firstwrong.errors import BadCell, BadLook
from firstwrong.kinds import is_row
from firstwrong.moments import need_moment
from firstwrong.pasts import all_moments, need_past, need_place
from firstwrong.spots import cell_in, is_cell_of, is_local_of, plain_cell, value_in
from firstwrong.trees import need_program

MOST_LOOKS = 16


def is_cell(program, thing):
    """Whether any value is a cell of a program."""
    need_program(program)
    return is_cell_of(program, thing)


def need_cell(program, cell):
    """Refuses what is no cell."""
    if not is_cell_of(program, cell):
        raise BadCell("a cell of the program is wanted")


def cell_value(moment, cell):
    """What a cell holds at a moment."""
    need_moment(moment)
    need_cell(moment.program, cell)
    return value_of(moment, cell)


def value_of(moment, cell):
    """The same for what surely is a cell."""
    if cell[0] == "cell":
        return cell_in(moment, cell[1], cell[2], cell[3])
    return plain_cell(moment, cell)


def is_look(program, thing):
    """Whether any value is a look of a program."""
    need_program(program)
    return is_look_of(program, thing)


def is_look_of(program, thing):
    """The same for what surely is a program."""
    return is_cell_of(program, thing) or is_local_of(program, "local", thing)


def need_look(program, look):
    """Refuses what is no look."""
    if not is_look_of(program, look):
        raise BadLook("a look of the program is wanted")


def shown(moment, look):
    """What a look shows at a moment."""
    need_moment(moment)
    need_look(moment.program, look)
    return shown_by(moment, look)


def shown_by(moment, look):
    """The same for what surely is a look."""
    if look[0] == "local":
        return value_in(moment, look[1], look[2], look[3])
    return value_of(moment, look)


def writes_of(past, cell):
    """The ascending list of the deeds that write a cell."""
    need_past(past)
    need_cell(past.program, cell)
    return [number for number, deed in enumerate(past.did) if cell in deed[5]]


def last_set(past, place, cell):
    """The last deed ahead of a place that writes a cell; None if there is none."""
    need_past(past)
    need_place(past, place)
    return max([number for number in writes_of(past, cell) if number < place], default=None)


def next_set(past, place, cell):
    """The first deed from a place on that writes a cell; None if there is none."""
    need_past(past)
    need_place(past, place)
    return min([number for number in writes_of(past, cell) if number >= place], default=None)


def may_change(deed, look):
    """Whether a deed may change what a look shows."""
    entry, writes = deed[0], deed[5]
    if look[0] == "local":
        if isinstance(entry, tuple):
            return entry[0] == "local" and entry[1] == look[1]
        return entry == look[1]
    return look in writes or (look[0] == "cell" and ("block",) + look[1:3] in writes)


def changes_of(past, look):
    """The ascending list of the deeds behind which a look shows something else."""
    need_past(past)
    need_look(past.program, look)
    shows = [shown_by(moment, look) for moment in all_moments(past)]
    return [number for number in range(past.length) if shows[number] != shows[number + 1]]


def table_of(past, looks):
    """What looks show at the first place, and wherever one of them shows something else."""
    need_past(past)
    if not is_row(looks) or not 1 <= len(looks) <= MOST_LOOKS:
        raise BadLook("1 to 16 looks are wanted")
    for look in looks:
        need_look(past.program, look)
    rows = [tuple([shown_by(moment, look) for look in looks]) for moment in all_moments(past)]
    return [(place, row) for place, row in enumerate(rows) if place == 0 or row != rows[place - 1]]
