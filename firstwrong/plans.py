"""Plans for showing all moments of a run backwards, with pictures kept on the way."""

from math import comb

from firstwrong.errors import BadNumber, BadPlan, TooMany
from firstwrong.kinds import is_number_in, is_tuple_of

MOST_PICTURES = 16
MOST_DONE = 2000


def need_pictures(pictures):
    """Refuses what is no number of pictures."""
    if not is_number_in(pictures, 0, MOST_PICTURES):
        raise BadNumber("pictures")


def need_steps(steps, most):
    """Refuses what is no number of steps."""
    if not is_number_in(steps, 0, most):
        raise BadNumber("steps")


def farthest(pictures, times):
    """How many steps can be shown backwards, none done more than so many times."""
    need_pictures(pictures)
    if not is_number_in(times, 0, 1000):
        raise BadNumber("times")
    return reach(pictures, times)


def reach(pictures, times):
    """The same for any number of times."""
    return comb(pictures + 1 + times, times) - 1


def repeats(steps, pictures):
    """How often some step must be done, at least."""
    need_steps(steps, 10 ** 9)
    need_pictures(pictures)
    return least_times(steps, pictures)


def least_times(steps, pictures):
    """The least number of times whose reach is not below steps."""
    # With no pictures the times are the steps: so many are not tried one by one.
    high = 1
    while reach(pictures, high) < steps:
        high = high * 2
    low = 0
    while low < high:
        middle = (low + high) // 2
        if reach(pictures, middle) < steps:
            low = middle + 1
        else:
            high = middle
    return low


def fewest_steps(steps, pictures):
    """The fewest steps in all by which all moments can be shown backwards."""
    need_steps(steps, 10 ** 9)
    need_pictures(pictures)
    return fewest(steps, pictures)


def fewest(steps, pictures):
    """The same for what surely is right."""
    times = least_times(steps, pictures)
    return times * (steps + 1) - comb(pictures + times + 1, pictures + 2)


class Shower:
    """Does the acts of a plan, one after the other."""

    def __init__(self, steps, pictures):
        self.steps = steps
        self.most = pictures
        self.hand = 0
        self.kept = {0: 0}
        self.left = steps
        self.done = [0] * steps

    def act(self, thing):
        """Does an act; False if it is none, or cannot be done now."""
        if not isinstance(thing, tuple) or thing == () or not isinstance(thing[0], str):
            return False
        if thing[0] == "step" and len(thing) == 1:
            return self.step()
        if thing[0] == "show" and len(thing) == 1:
            self.left -= 1
            return self.hand == self.left + 1
        if thing[0] == "keep" and is_tuple_of(thing, 2) and is_number_in(thing[1], 1, self.most):
            self.kept[thing[1]] = self.hand
            return True
        if thing[0] == "take" and is_tuple_of(thing, 2) and is_number_in(thing[1], 0, self.most):
            self.hand = self.kept.get(thing[1], -1)
            return self.hand >= 0
        return False

    def step(self):
        """The hand goes on to the next moment."""
        if self.hand == self.steps:
            return False
        self.done[self.hand] += 1
        self.hand += 1
        return True


def shower_of(steps, pictures, thing):
    """Who did all the acts of a plan; None if it is none."""
    if not isinstance(thing, tuple):
        return None
    shower = Shower(steps, pictures)
    for act in thing:
        if not shower.act(act):
            return None
    return shower if shower.left == -1 else None


def is_plan(steps, pictures, thing):
    """Whether any value is a plan for so many steps and pictures."""
    need_steps(steps, 1000)
    need_pictures(pictures)
    return shower_of(steps, pictures, thing) is not None


def times_done(steps, pictures, plan):
    """How often each step is done by a plan."""
    need_steps(steps, 1000)
    need_pictures(pictures)
    shower = shower_of(steps, pictures, plan)
    if shower is None:
        raise BadPlan("this is no plan for so many steps and pictures")
    return tuple(shower.done)


def back_plan(steps, pictures):
    """A plan with the fewest steps in all, none done more often than it must be."""
    need_steps(steps, 1000)
    need_pictures(pictures)
    if fewest(steps, pictures) > MOST_DONE:
        raise TooMany(MOST_DONE)
    acts = []
    show_back(acts, steps, tuple(range(1, pictures + 1)), 0)
    return tuple(acts)


def show_back(acts, steps, free, base):
    """Shows so many moments and one more, from the one in hand on, backwards.

    free are the numbers of the pictures that may be kept for it; the first
    moment, which is in hand, is that of picture base.
    """
    while steps > 0:
        ahead = part_kept(steps, len(free))
        acts.extend([("step",)] * ahead)
        if ahead < steps:
            acts.append(("keep", free[0]))
            show_back(acts, steps - ahead, free[1:], free[0])
        else:
            acts.append(("show",))
        acts.append(("take", base))
        steps = ahead - 1
    acts.append(("show",))


def part_kept(steps, free):
    """How many steps ahead the next picture is kept; all of them if there is none.

    The fewest steps are done if what is behind it, shown with one picture
    fewer, needs as many times as the whole, and what is ahead of it one time
    fewer.
    """
    if free == 0:
        return steps
    times = least_times(steps, free)
    ahead = reach(free, times - 2) if times > 1 else 0
    return steps - min(reach(free - 1, times), steps - 1 - ahead)
