"""Logs looked into, cut, thinned, and judged."""

from firstwrong.errors import BadNumber, TooMany
from firstwrong.kinds import is_number_in, is_row
from firstwrong.momentbytes import moment_bytes, moment_of_bytes
from firstwrong.moments import begun
from firstwrong.records import MOST_PAYLOAD, record_bytes
from firstwrong.runlogs import MARK, PICTURE, STEP, log_read
from firstwrong.steps import step_of
from firstwrong.trees import need_program


def pictures_of(reader):
    """From the numbers of steps to the pictures that stand behind them."""
    return {number: payload for number, kind, payload in reader.records if kind == PICTURE}


def pictures_in(program, thing):
    """The numbers of steps at which pictures stand."""
    need_program(program)
    return tuple(sorted(pictures_of(log_read(program, thing)[0])))


def need_number(reader, number):
    """Refuses what is no number of steps of the log."""
    if not is_number_in(number, 0, len(reader.steps)):
        raise BadNumber("number")


def seek(program, thing, number):
    """The moment behind so many steps, and how many were done again from the nearest picture."""
    need_program(program)
    reader, good, _ = log_read(program, thing)
    need_number(reader, number)
    if good == 0:
        raise BadNumber("number")
    pictures = pictures_of(reader)
    nearest = max([0] + [place for place in pictures if place <= number])
    moment = moment_of_bytes(program, pictures[nearest]) if nearest in pictures else begun(program)
    for thread, _ in reader.steps[nearest:number]:
        moment, _ = step_of(moment, thread, reader.inputs)
    return (moment, number - nearest)


def beginning_of(program, thing, number):
    """The bytes of a log up to a step, and what stands behind it ahead of the next one."""
    need_program(program)
    reader, _, _ = log_read(program, thing)
    need_number(reader, number)
    return bytes_of([(kind, payload) for place, kind, payload in reader.records if place <= number])


def bytes_of(records):
    """The bytes of records, one behind the other."""
    found = []
    for kind, payload in records:
        found.extend(record_bytes(kind, payload))
    return tuple(found)


def thinned(program, thing, spots):
    """The log of the same steps and told records with pictures at these moments, and no others."""
    need_program(program)
    reader, good, _ = log_read(program, thing)
    most = len(reader.steps)
    if not is_row(spots) or not all([is_number_in(spot, 0, most) for spot in spots]):
        raise BadNumber("spots")
    if good == 0:
        return ()
    pictures = pictures_at(program, reader, spots)
    kept = []
    for place, (number, kind, payload) in enumerate(reader.records):
        if kind not in (PICTURE, MARK):
            kept.append((kind, payload))
        is_last = place == len(reader.records) - 1 or reader.records[place + 1][1] == STEP
        if is_last and number in pictures:
            kept.append((PICTURE, pictures[number]))
    return bytes_of(kept)


def pictures_at(program, reader, spots):
    """The pictures of the moments behind so many steps."""
    found = {}
    moment = begun(program)
    for place in range(max([0] + list(spots)) + 1):
        if place > 0:
            moment, _ = step_of(moment, reader.steps[place - 1][0], reader.inputs)
        if place in spots:
            found[place] = moment_bytes(moment)
            if len(found[place]) > MOST_PAYLOAD:
                raise TooMany(MOST_PAYLOAD)
    return found


def fault_in(program, thing):
    """How many steps stand ahead of the first record that does not fit; None without one."""
    need_program(program)
    reader, _, why = log_read(program, thing)
    return len(reader.steps) if why == "strange" else None


def good_part(program, thing):
    """The bytes of the longest beginning that is a log."""
    need_program(program)
    _, good, _ = log_read(program, thing)
    return tuple(thing[:good])


def wrong_in(program, thing):
    """The wrong step of the run that a log tells; None without one."""
    need_program(program)
    reader, good, _ = log_read(program, thing)
    if good == 0 or reader.moment.wrong is None:
        return None
    return (len(reader.steps) - 1,) + reader.moment.wrong
