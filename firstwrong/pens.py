"""Pens: they record a run on a disk, step by step, and go on with what is found there."""

from firstwrong.disks import need_disk
from firstwrong.errors import BadDeed, BadLog, BadNumber, NotNow, OldPen, TooMany
from firstwrong.kinds import is_int, is_number_in, is_one_of
from firstwrong.momentbytes import moment_bytes
from firstwrong.moments import begun
from firstwrong.records import MOST_PAYLOAD, record_bytes
from firstwrong.rows import four_bytes
from firstwrong.runlogs import HEAD, MARK, PICTURE, STEP, TOLD, head_bytes, log_read, mark_bytes, step_bytes
from firstwrong.spots import is_thread_of
from firstwrong.steps import step_of
from firstwrong.trees import need_program

ALONE = ("picture", "mark", "sure", "tell")


class Pen:
    """Records a run of a program on a disk, from what is found there on."""

    def __init__(self, program, disk):
        need_program(program)
        need_disk(disk)
        self.program = program
        self.disk = disk
        self.life = disk.take_pen()
        reader, good, why = log_read(program, disk.found())
        if why == "strange":
            raise BadLog(good)
        if why == "torn":
            disk.cut(self.life, good)
        if good == 0:
            disk.write(self.life, record_bytes(HEAD, head_bytes(program)))
        disk.make_sure(self.life)
        self.moment = begun(program) if good == 0 else reader.moment
        self.steps = len(reader.steps)
        self.told = reader.spoken

    def acts(self, deed):
        """What a deed would do with the disk and outside, one act after the other."""
        if not is_pen_deed(self.program, deed):
            raise BadDeed("a deed of the pen is wanted")
        word = deed[0]
        if word == "step":
            after_step(self.moment, deed)
            return (("write", record_bytes(STEP, step_bytes(deed[1], input_of(deed)))),)
        if word == "picture":
            row = moment_bytes(self.moment)
            if len(row) > MOST_PAYLOAD:
                raise TooMany(MOST_PAYLOAD)
            return (("write", record_bytes(PICTURE, row)),)
        if word == "mark":
            return (("write", record_bytes(MARK, mark_bytes(self.moment))),)
        if word == "sure":
            return (("sure",),)
        given = self.moment.given
        if self.told >= len(given):
            return ()
        record = record_bytes(TOLD, four_bytes(len(given)))
        return (("sure",), ("tell", given[self.told:]), ("write", record))

    def do(self, deed):
        """Does a deed: of a step the trace, of "tell" the ints told, of others nothing comes back."""
        acts = self.acts(deed)
        if self.disk.life != self.life:
            raise OldPen("another pen was taken, or the machine fell")
        told = acts_done(self.disk, self.life, acts)
        if deed[0] == "step":
            self.moment, trace = after_step(self.moment, deed)
            self.steps += 1
            return trace
        if deed[0] == "tell":
            self.told += len(told)
            return told
        return None


def is_pen_deed(program, thing):
    """Whether any value is a deed of a pen."""
    if not isinstance(thing, tuple) or not 1 <= len(thing) <= 3:
        return False
    if len(thing) == 1:
        return is_one_of(thing[0], ALONE)
    if not is_one_of(thing[0], ("step",)) or not is_thread_of(program, thing[1]):
        return False
    return len(thing) == 2 or is_int(thing[2])


def input_of(deed):
    """The input that a deed "step" hands in; None without one."""
    return deed[2] if len(deed) == 3 else None


def after_step(moment, deed):
    """The moment behind a deed "step", and its trace."""
    told = input_of(deed)
    # What was asked ahead is never looked at again.
    inputs = (0,) * moment.asked + (() if told is None else (told,))
    after, trace = step_of(moment, deed[1], inputs)
    if after.asked != len(inputs):
        raise NotNow("inputs")
    return (after, trace)


def acts_done(disk, life, acts):
    """Does these acts with a disk; the ints that are told by them."""
    told = ()
    for act in acts:
        if act[0] == "write":
            disk.write(life, act[1])
        elif act[0] == "sure":
            disk.make_sure(life)
        else:
            told = told + act[1]
    return told


def fallen(pen, deed, many, kept):
    """The disk that is found if the machine falls in the midst of a deed, and what was told by then."""
    if not isinstance(pen, Pen):
        raise BadDeed("a pen is wanted")
    acts = () if deed is None else pen.acts(deed)
    if not is_number_in(many, 0, len(acts)):
        raise BadNumber("many")
    if pen.disk.life != pen.life:
        raise OldPen("another pen was taken, or the machine fell")
    disk = pen.disk.twin()
    told = acts_done(disk, pen.life, acts[:many])
    disk.fall(kept)
    return (disk, told)
