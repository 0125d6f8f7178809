"""The weavings that keep a ledger: counted, and gone through in their sequence."""

from firstwrong.errors import BadNumber, BadWeaving, TooMany
from firstwrong.kinds import is_number_in
from firstwrong.ledgers import keeps_ledger, need_ledger
from firstwrong.needs import Needs, one_more
from firstwrong.orders import NOUGHT

MOST_DONE = 20000


class Ways:
    """Of all that can be done of a ledger in how many ways it goes on to the end."""

    def __init__(self, ledger):
        self.counts = ledger[0]
        if many_done(self.counts) > MOST_DONE:
            raise TooMany(MOST_DONE)
        self.needs = Needs(self.counts, ledger[1])
        self.many = {self.counts: 1}
        # What has more done comes first.
        for done in all_done(self.counts)[1:]:
            self.many[done] = sum([self.many[one_more(done, thread)] for thread in self.needs.free(done)])

    def weaving_there(self, number):
        """The weaving at this place of all."""
        found = []
        done = NOUGHT
        while done != self.counts:
            for thread in self.needs.free(done):
                after = one_more(done, thread)
                if number < self.many[after]:
                    break
                number -= self.many[after]
            found.append(thread)
            done = after
        return tuple(found)

    def place_among(self, weaving):
        """The place of a weaving among all."""
        found = 0
        done = NOUGHT
        for thread in weaving:
            found += sum([self.many[one_more(done, other)] for other in self.needs.free(done) if other < thread])
            done = one_more(done, thread)
        return found


def many_done(counts):
    """In how many ways a beginning of each thread can be done."""
    found = 1
    for number in counts:
        found = found * (number + 1)
    return found


def all_done(counts):
    """How many steps of each thread may be done, the most first."""
    found = [()]
    for number in counts:
        found = [done + (some,) for done in found for some in range(number, -1, -1)]
    return found


def need_keeping(ledger, weaving):
    """Refuses what is no weaving that keeps the ledger."""
    if not keeps_ledger(ledger, weaving):
        raise BadWeaving("a weaving that keeps the ledger is wanted")


def how_many(ledger):
    """How many weavings keep a ledger."""
    need_ledger(ledger)
    return Ways(ledger).many[NOUGHT]


def least_weaving(ledger):
    """The first one of the weavings that keep a ledger."""
    need_ledger(ledger)
    return Ways(ledger).weaving_there(0)


def next_weaving(ledger, weaving):
    """The weaving behind this one; None behind the last one."""
    need_keeping(ledger, weaving)
    ways = Ways(ledger)
    number = ways.place_among(weaving) + 1
    if number == ways.many[NOUGHT]:
        return None
    return ways.weaving_there(number)


def weaving_at(ledger, number):
    """The weaving at this place of all, counted from 0."""
    need_ledger(ledger)
    ways = Ways(ledger)
    if not is_number_in(number, 0, ways.many[NOUGHT] - 1):
        raise BadNumber("number")
    return ways.weaving_there(number)


def place_of(ledger, weaving):
    """The place of a weaving among all that keep the ledger."""
    need_keeping(ledger, weaving)
    return Ways(ledger).place_among(weaving)
