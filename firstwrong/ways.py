"""Ways through a session: the least lists of moves to a branch and place."""

from firstwrong.branches import need_branch
from firstwrong.errors import BadNumber
from firstwrong.kinds import is_number_in
from firstwrong.sessions import need_session
from firstwrong.stops import places_of_all


class Map:
    """All branches of a session with their places, and the least ways there from where it stands.

    lengths has the lengths of the branches, lasts and nexts tell of each place to
    which one "last" and "next" lead; moves leads from each branch and place to
    the last move of the way there, and the branch and place ahead of it, far to
    how many moves it has.
    """

    def __init__(self, session):
        pasts = [session.past(number) for number in range(len(session.branches()))]
        stops = [stop for _, stop in session.stops()]
        self.lengths = [past.length for past in pasts]
        self.lasts = []
        self.nexts = []
        for past in pasts:
            self.add_stops(past.length, places_of_all(past, stops))
        self.marked = session.marks()
        self.moves = {(session.branch, session.place): None}
        self.far = {(session.branch, session.place): 0}
        self.go_all(session.branch, session.place)

    def add_stops(self, length, places):
        """To where "last" and "next" lead in one branch."""
        stopped = {place: True for place in places}
        lasts = [0]
        for place in range(1, length + 1):
            lasts.append(place - 1 if place - 1 in stopped else lasts[-1])
        nexts = [length]
        for place in range(length - 1, -1, -1):
            nexts.append(place + 1 if place + 1 in stopped else nexts[-1])
        self.lasts.append(lasts)
        self.nexts.append(nexts[::-1])

    def moves_from(self, branch, place):
        """The pairs of a move and where it leads, ascending by the moves."""
        found = []
        length = self.lengths[branch]
        if place > 0:
            found.append((("back",), (branch, place - 1)))
        for number, other in enumerate(self.lengths):
            found.append((("branch", number), (number, min(place, other))))
        for word in self.marked:
            found.append((("goto", word), self.marked[word]))
        if place > 0:
            found.append((("last",), (branch, self.lasts[branch][place])))
        if place < length:
            found.append((("next",), (branch, self.nexts[branch][place])))
            found.append((("on",), (branch, place + 1)))
        return found

    def go_all(self, branch, place):
        """Goes everywhere: who comes to a branch and place first comes by the least way."""
        row = [(branch, place)]
        while row != []:
            further = []
            for here in row:
                for move, there in self.moves_from(here[0], here[1]):
                    if there not in self.moves:
                        self.moves[there] = (move, here)
                        self.far[there] = self.far[here] + 1
                        further.append(there)
            row = further

    def way(self, branch, place):
        """The moves of the least way."""
        found = []
        told = self.moves[(branch, place)]
        while told is not None:
            move, here = told
            found.append(move)
            told = self.moves[here]
        return found[::-1]


def least_way(session, branch, place):
    """The least one of the shortest lists of moves to a branch and place."""
    need_session(session)
    need_branch(session, branch, "branch")
    if not is_number_in(place, 0, session.past(branch).length):
        raise BadNumber("place")
    return Map(session).way(branch, place)


def distances(session):
    """For each place of each branch how many moves lead there."""
    need_session(session)
    known = Map(session)
    return [tuple([known.far[(branch, place)] for place in range(length + 1)])
            for branch, length in enumerate(known.lengths)]
