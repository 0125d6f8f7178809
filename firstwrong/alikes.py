"""Weavings that are alike: they come of one another by exchanges that nothing sees."""

from firstwrong.errors import BadInputs, BadNumber, NotNow, TooMany
from firstwrong.kinds import is_number_in
from firstwrong.moments import need_moment
from firstwrong.steps import need_run, run, step_of
from firstwrong.turns import need_inputs

MOST_KINDS = 2048
WRONG = (("wrong",),)


def do_meet(one, other):
    """Whether two steps (thread, reads, writes) meet."""
    if one[0] == other[0] or one[2] == WRONG or other[2] == WRONG:
        return True
    if any([cell in other[1] or cell in other[2] for cell in one[2]]):
        return True
    return any([cell in one[1] for cell in other[2]])


def deeds_of(start, inputs, weaving):
    """The steps (thread, reads, writes) of a run."""
    _, traces = run(start, inputs, weaving)
    return [(thread, reads, writes) for thread, (reads, writes, _) in zip(weaving, traces)]


def met(start, inputs, weaving):
    """The ascending list of the pairs of places of steps that meet."""
    need_run(start, inputs, weaving)
    return pairs_met(deeds_of(start, inputs, weaving))


def pairs_met(deeds):
    """The same for steps (thread, reads, writes)."""
    many = len(deeds)
    return [(one, other) for one in range(many) for other in range(one + 1, many)
            if do_meet(deeds[one], deeds[other])]


def least_alike(start, inputs, weaving):
    """The least one of the weavings that are alike to this one."""
    need_run(start, inputs, weaving)
    return least_of(deeds_of(start, inputs, weaving))


def least_of(deeds):
    """Of all that may come next the least thread is taken, step by step."""
    waiting = [0] * len(deeds)
    behind = [[] for _ in deeds]
    for one, other in pairs_met(deeds):
        waiting[other] += 1
        behind[one].append(other)
    left = list(range(len(deeds)))
    found = []
    while left != []:
        # No two of one thread are ready at once, for they meet.
        thread, place = min([(deeds[place][0], place) for place in left if waiting[place] == 0])
        found.append(thread)
        left.remove(place)
        for other in behind[place]:
            waiting[other] -= 1
    return tuple(found)


def are_alike(start, inputs, one, other):
    """Whether two weavings are alike."""
    first = least_alike(start, inputs, one)
    return first == least_alike(start, inputs, other)


def kinds_of(start, inputs, many):
    """All weavings of so many steps that are their own least_alike; and those
    of fewer steps behind which no thread can be stepped."""
    need_moment(start)
    need_inputs(inputs)
    if not is_number_in(many, 0, 24):
        raise BadNumber("many")
    ended = []
    row = [((), (), start)]
    for _ in range(many):
        further = []
        for weaving, deeds, moment in row:
            turns = turns_of(moment, inputs)
            if turns == []:
                ended.append(weaving)
            for thread, after, deed in turns:
                if stays_least(deeds, deed):
                    further.append((weaving + (thread,), deeds + (deed,), after))
            if len(further) > MOST_KINDS:
                raise TooMany(MOST_KINDS)
        row = further
    return sorted(ended + [weaving for weaving, _, _ in row])


def turns_of(moment, inputs):
    """(thread, moment behind, step) for each thread that can be stepped."""
    found = []
    for thread in range(len(moment.stacks)):
        try:
            after, trace = step_of(moment, thread, inputs)
        except (NotNow, BadInputs):
            continue
        found.append((thread, after, (thread, trace[0], trace[1])))
    return found


def stays_least(deeds, deed):
    """Whether a least weaving with this step behind it is a least one.

    It is not if the step could go ahead of one of a greater thread.
    """
    for place in range(len(deeds) - 1, -1, -1):
        if do_meet(deeds[place], deed):
            return True
        if deeds[place][0] > deed[0]:
            return False
    return True
