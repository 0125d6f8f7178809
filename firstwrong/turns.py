"""Whether a thread can step: why not, for all machines alike."""

from firstwrong.errors import BadInputs, BadNumber, NotNow
from firstwrong.kinds import is_int, is_number_in, is_row

END = ("end",)


def need_thread(whole, thread):
    """Refuses what is no thread's number of a program or code."""
    if not is_number_in(thread, 0, len(whole.threads) - 1):
        raise BadNumber("thread")


def need_inputs(inputs):
    """Refuses what is no list of ints."""
    if not is_row(inputs) or not all([is_int(number) for number in inputs]):
        raise BadInputs("inputs are a list of ints")


def need_weaving(whole, weaving):
    """Refuses what is no list of threads' numbers of a program or code."""
    most = len(whole.threads) - 1
    if not is_row(weaving) or not all([is_number_in(thread, 0, most) for thread in weaving]):
        raise BadNumber("weaving")


def is_held(names, held, thread, op):
    """Whether this is a take of a lock that another thread holds."""
    if op[0] != "take":
        return False
    return held[names.locks[op[1]]] not in (None, thread)


def why_not(names, moment, thread, op_next):
    """Why a thread cannot step, None if it can; op_next tells its next own op."""
    if moment.wrong is not None:
        return "wrong"
    if moment.stacks[thread] == ():
        return "ended"
    if is_held(names, moment.held, thread, op_next(moment, thread)):
        return "held"
    return None


def refuse(names, moment, thread, inputs, op_next):
    """Raises what keeps a thread from its step."""
    why = why_not(names, moment, thread, op_next)
    if why is not None:
        raise NotNow(why)
    op = op_next(moment, thread)
    if op[0] == "ask":
        if moment.asked >= len(inputs):
            raise NotNow("inputs")
        if not op[2] <= inputs[moment.asked] <= op[3]:
            raise BadInputs("an input is not within its bounds")
