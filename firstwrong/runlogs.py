"""Logs of runs: records of a head, of steps, and of what stands between them."""

from firstwrong.errors import BadInputs, NotNow
from firstwrong.momentbytes import moment_bytes
from firstwrong.moments import begun
from firstwrong.programtexts import text_of
from firstwrong.records import AHEAD, BEHIND, record_bytes, records_of
from firstwrong.rows import four_bytes, low_bytes, mark_of
from firstwrong.steps import run, step_of
from firstwrong.trees import need_program

HEAD = 1
STEP = 2
PICTURE = 3
MARK = 4
TOLD = 5


def head_bytes(program):
    """What the head of a log bears."""
    return four_bytes(mark_of([ord(sign) for sign in text_of(program)]))


def step_bytes(thread, told):
    """What the record of a step bears; told is the input that was asked, or None."""
    return (thread,) if told is None else (thread,) + low_bytes(told, 4)


def mark_bytes(moment):
    """What a mark of a moment bears."""
    return four_bytes(mark_of(moment_bytes(moment)))


def number_of(row):
    """The number of four bytes, the lowest first."""
    return row[0] + 2 ** 8 * row[1] + 2 ** 16 * row[2] + 2 ** 24 * row[3]


def int_of(row):
    """The int of four bytes, a negative one with 2 ** 32 more."""
    number = number_of(row)
    return number - 2 ** 32 if number >= 2 ** 31 else number


class LogReader:
    """Takes records as long as they are a log of a run.

    moment is the one reached, None without a head; records are those taken, each
    behind the number of steps ahead of its end; spoken tells how many of the
    given ints were told outside.
    """

    def __init__(self, program):
        self.program = program
        self.moment = None
        self.records = []
        self.steps = []
        self.inputs = []
        self.spoken = 0

    def take_record(self, kind, payload):
        """Takes the next record; whether it fits there."""
        if not self.is_next(kind, payload):
            return False
        self.records.append((len(self.steps), kind, payload))
        return True

    def is_next(self, kind, payload):
        """Does what the next record tells; whether it fits there."""
        if self.moment is None:
            if kind != HEAD or payload != head_bytes(self.program):
                return False
            self.moment = begun(self.program)
            return True
        if kind == STEP:
            return self.take_step(payload)
        if kind == PICTURE:
            return payload == moment_bytes(self.moment)
        if kind == MARK:
            return payload == mark_bytes(self.moment)
        return kind == TOLD and self.take_told(payload)

    def take_step(self, payload):
        """Takes the record of a step."""
        if len(payload) not in (1, 5) or payload[0] >= len(self.program.threads):
            return False
        told = int_of(payload[1:]) if len(payload) == 5 else None
        inputs = self.inputs if told is None else self.inputs + [told]
        try:
            after, _ = step_of(self.moment, payload[0], inputs)
        except (NotNow, BadInputs):
            return False
        if after.asked != len(inputs):
            return False
        self.inputs = inputs
        self.moment = after
        self.steps.append((payload[0], told))
        return True

    def take_told(self, payload):
        """Takes what tells how many ints were told."""
        if len(payload) != 4 or not self.spoken <= number_of(payload) <= len(self.moment.given):
            return False
        self.spoken = number_of(payload)
        return True


def log_read(program, thing):
    """The reader of the longest beginning that is a log, how many bytes it has, and
    what stands behind it."""
    reader = LogReader(program)
    records, _, why = records_of(thing)
    good = 0
    for kind, payload in records:
        if not reader.take_record(kind, payload):
            return (reader, good, "strange")
        good += AHEAD + len(payload) + BEHIND
    return (reader, good, why)


def read_log(program, thing):
    """The steps of the longest beginning that is a log, its bytes, and what stands behind it."""
    need_program(program)
    reader, good, why = log_read(program, thing)
    return (tuple(reader.steps), good, why)


def logged(program, thing):
    """All moments of the run that a log tells."""
    need_program(program)
    reader, good, _ = log_read(program, thing)
    if good == 0:
        return []
    return run(begun(program), reader.inputs, [thread for thread, _ in reader.steps])[0]


def log_bytes(program, inputs, weaving):
    """The log of a run, of its head and its steps."""
    moments, _ = run(begun(program), inputs, weaving)
    if len(inputs) > moments[-1].asked:
        raise BadInputs("more inputs than were asked for")
    found = list(record_bytes(HEAD, head_bytes(program)))
    for thread, ahead, after in zip(weaving, moments, moments[1:]):
        told = inputs[ahead.asked] if after.asked > ahead.asked else None
        found.extend(record_bytes(STEP, step_bytes(thread, told)))
    return tuple(found)
