"""Chains: how a difference between two runs goes back to an exchanged value."""

from firstwrong.errors import NotNow
from firstwrong.kinds import is_same
from firstwrong.sights import need_sight, seen
from firstwrong.sources import both_runs
from firstwrong.stepviews import StepView


class Pair:
    """Two plain akin runs, side by side."""

    def __init__(self, one, two, weaving):
        self.ones, self.traces = one
        self.twos = two[0]
        self.weaving = weaving

    def is_unlike(self, place, sight):
        """Whether both see this unlike at a place."""
        return seen(self.ones[place], sight) != seen(self.twos[place], sight)

    def since(self, place, sight):
        """The least place from which on both see this unlike up to here."""
        while place > 0 and self.is_unlike(place - 1, sight):
            place -= 1
        return place

    def further(self, place, sight):
        """The links that may come behind one, the least first; whether they are the last."""
        begins = self.since(place, sight)
        if begins == 0:
            return ([(0, sight)] if place > 0 else [], True)
        step = begins - 1
        thread = self.weaving[step]
        if self.is_unlike(step, ("way", thread)):
            return ([(step, ("way", thread))], False)
        looks = [(step, look) for look in self.looked_at(step) if self.is_unlike(step, look)]
        if looks != []:
            return (looks, False)
        return ([(step, ("input", self.ones[step].asked))], True)

    def looked_at(self, step):
        """The ascending list of what a step looks at in the first run."""
        view = StepView(self.ones[step], self.weaving[step])
        found = list(self.traces[step][0])
        here = (view.thread, view.depth)
        for expression, _, _ in view.all_worked():
            if expression[0] == "local":
                found.append(("local",) + here + (expression[1],))
            elif expression[0] == "block":
                found.append(("name",) + here + (expression[1],))
        if view.next_word() == "return":
            found.extend([("name",) + here + (block[0],) for block in view.head[3]])
        return sorted(found)


def pair_of(moment, inputs, weaving, other, others, sight):
    """Both runs, which must be plain, akin and see the sight."""
    one, two = both_runs(moment, inputs, weaving, other, others)
    if one[0][-1].wrong is not None or two[0][-1].wrong is not None:
        raise NotNow("wrong")
    need_sight(moment.program, sight)
    return Pair(one, two, weaving)


def is_chain(moment, inputs, weaving, other, others, sight, thing):
    """Whether any value is a chain from the first run to the other one."""
    pair = pair_of(moment, inputs, weaving, other, others, sight)
    if not pair.is_unlike(len(weaving), sight) or not isinstance(thing, tuple) or thing == ():
        return False
    if not is_same(thing[0], (len(weaving), sight)):
        return False
    place, last = len(weaving), False
    for link in thing[1:]:
        if last:
            return False
        links, last = pair.further(place, sight)
        found = [known for known in links if is_same(link, known)]
        if found == []:
            return False
        place, sight = found[0]
    return last or pair.further(place, sight) == ([], True)


def chain_of(moment, inputs, weaving, other, others, sight):
    """The chain that takes the least spot each time; None if both runs see the same."""
    pair = pair_of(moment, inputs, weaving, other, others, sight)
    place = len(weaving)
    if not pair.is_unlike(place, sight):
        return None
    chain = [(place, sight)]
    last = False
    while not last:
        links, last = pair.further(place, sight)
        if links != []:
            place, sight = links[0]
            chain.append((place, sight))
    return tuple(chain)
