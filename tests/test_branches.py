"""Points 103 and 104: branches of sessions, and the least ways through them."""

import unittest

from made import spill, tally
from sittings_by_hand import sat, starts
from firstwrong.branches import alike_up_to, parents_of, partings
from firstwrong.errors import BadNumber, BadSession, NotNow
from firstwrong.moments import begun
from firstwrong.pasts import moment_at
from firstwrong.sessions import Session
from firstwrong.ways import distances, least_way
from firstwrong.whatif import parting

ROWS = starts()
NO_SESSIONS = (None, 5, (), "session", spill())


def small(*deeds):
    session = Session(begun(spill()), ((5, 1), (0,) * 8), 3)
    for deed in deeds:
        session.do(deed)
    return session


def tree():
    """0 - 1 - 2, 1 - 3, 0 - 4, with forks by hand."""
    return small(("to", 6), ("edit", ("local", 0, "spot", 3)), ("to", 4), ("course", (0,)), ("branch", 1), ("to", 7), ("edit", ("local", 0, "spot", 9)), ("branch", 0),
                 ("to", 2), ("course", ()))


def sessions():
    for seed in range(2 * len(ROWS)):
        session = Session(*ROWS[seed % len(ROWS)])
        sat(session, seed + 100, 35)
        yield session


class Branches(unittest.TestCase):
    def test_by_hand(self):
        session = tree()
        self.assertEqual([row[:2] for row in session.branches()], [(None, None), (0, 6), (1, 5), (1, 7), (0, 2)])
        self.assertEqual([parents_of(session, number) for number in range(5)], [(0,), (1, 0), (2, 1, 0), (3, 1, 0), (4, 0)])
        told = [[alike_up_to(session, one, other) for other in range(5)] for one in range(5)]
        self.assertEqual(told, [[8, 6, 5, 6, 2], [6, 9, 5, 7, 2], [5, 5, 5, 5, 2], [6, 7, 5, 10, 2], [2, 2, 2, 2, 2]])

    def test_against_moments(self):
        many = 0
        for session in sessions():
            numbers = range(len(session.branches()))
            rows = partings(session)
            pasts = [session.past(number) for number in numbers]
            self.assertEqual(rows, [tuple(parting(one, other)[0] for other in pasts) for one in pasts])
            for one in numbers:
                way = parents_of(session, one)
                self.assertEqual((way[0], way[-1]), (one, 0))
                self.assertEqual(list(way[1:]), [session.branches()[number][0] for number in way[:-1]])
                for other in numbers:
                    told = alike_up_to(session, one, other)
                    self.assertEqual(told, self.by_words(session, one, other))
                    # The moments are the same up to there, so no parting lies there.
                    for place in range(told + 1):
                        self.assertEqual(moment_at(pasts[one], place)[0], moment_at(pasts[other], place)[0])
                    self.assertTrue(rows[one][other] is None or rows[one][other] > told)
                    for third in numbers:
                        if len({one, other, third}) == 3:
                            self.assertGreaterEqual(alike_up_to(session, one, third), min(told, alike_up_to(session, other, third)))
                    many += 1
        self.assertGreater(many, 200)

    def by_words(self, session, one, other):
        """The least fork on the way from one to the other, but for that where the ways meet."""
        if one == other:
            return session.past(one).length
        first, second = parents_of(session, one), parents_of(session, other)
        meets = next(number for number in first if number in second)
        return min(session.branches()[number][1] for way in (first, second) for number in way[:way.index(meets)])

    def test_errors(self):
        for thing in NO_SESSIONS:
            for call in (partings, lambda s: parents_of(s, None), lambda s: alike_up_to(s, None, None)):
                self.assertRaises(BadSession, call, thing)
        session = tree()
        for number in (5, -1, True, None, "0"):
            for call, part in ((lambda: parents_of(session, number), "number"), (lambda: alike_up_to(session, number, None), "one"), (lambda: alike_up_to(session, 0, number), "other")):
                with self.assertRaises(BadNumber) as caught:
                    call()
                self.assertEqual(caught.exception.part, part)
        self.assertEqual((parents_of(session=session, number=0), alike_up_to(session=session, one=4, other=3)), ((0,), 2))


def all_moves(session):
    found = [("on",), ("back",), ("next",), ("last",)]
    found += [("goto", word) for word in session.marks()]
    return sorted(found + [("branch", number) for number in range(len(session.branches()))])


def by_trying(session):
    """From each branch and place that comes by some moves to the least of the shortest lists of them: all lists are tried."""
    start = (session.branch, session.place)
    found, row = {start: []}, [[]]
    while row:
        further = []
        for way in row:
            for move in all_moves(session):
                done = 0
                try:
                    for deed in way + [move]:
                        session.do(deed)
                        done += 1
                except NotNow:
                    pass
                here = (session.branch, session.place)
                for _ in range(done):
                    session.undo()
                if done == len(way) + 1 and (here not in found or (len(found[here]), found[here]) > (len(way) + 1, way + [move])):
                    if here not in found:
                        further.append(way + [move])
                    found[here] = way + [move]
        row = further
    return found


class Ways(unittest.TestCase):
    def some(self):
        yield small()
        yield small(("to", 4))
        yield small(("stop", ("watch", ("local", 0, 1, "spot"))), ("on",), ("mark", "b"), ("to", 7), ("mark", "a"), ("without", 3))
        yield small(("mark", "z"), ("to", 5), ("mark", "a"), ("course", ()), ("branch", 0), ("to", 8))
        yield tree()
        for number, session in enumerate(sessions()):
            if sum(session.past(branch).length for branch in range(len(session.branches()))) < 60 and number % 2:
                yield session

    def test_against_all_lists(self):
        many = 0
        for session in self.some():
            known = by_trying(session)
            here = (session.branch, session.place)
            told = distances(session)
            self.assertEqual([len(row) for row in told], [session.past(number).length + 1 for number in range(len(session.branches()))])
            for branch, row in enumerate(told):
                for place, far in enumerate(row):
                    way = least_way(session, branch, place)
                    self.assertEqual(way, known[(branch, place)])
                    self.assertEqual(far, len(way))
                    for move in way:
                        session.do(move)
                    self.assertEqual((session.branch, session.place), (branch, place))
                    for _ in way:
                        session.undo()
                    many += 1
            self.assertEqual(((session.branch, session.place), least_way(session, *here)), (here, []))
        self.assertGreater(many, 200)

    def test_of_all_shortest_the_least(self):
        session = small(("mark", "b"), ("mark", "a"), ("to", 5))
        # goto a, goto b, branch, last: all lead there, or not.
        self.assertEqual(least_way(session, 0, 0), [("goto", "a")])
        session.do(("clear", "a"))
        self.assertEqual(least_way(session, 0, 0), [("goto", "b")])
        session.do(("clear", "b"))
        self.assertEqual((least_way(session, 0, 0), least_way(session, 0, 8), least_way(session, 0, 4)), ([("last",)], [("next",)], [("back",)]))
        self.assertEqual(least_way(session, 0, 7), [("next",), ("back",)])

    def test_nothing_is_done(self):
        session = tree()
        before = (session.deeds(), session.undone(), session.branch, session.place)
        least_way(session, 3, 4), distances(session)
        self.assertEqual((session.deeds(), session.undone(), session.branch, session.place), before)

    def test_long_ones(self):
        session = Session(begun(spill()), ((9,), (0,) * 2048), 256)
        # Forwards, or from the end back: place 17 is one move away.
        self.assertEqual(session.past(0).length, 17)
        self.assertEqual(distances(session), [tuple(min(place, 1 + 17 - place) for place in range(18))])
        session = Session(begun(tally()), ((), (0,) * 7 + (1,) * 2041), 256)
        self.assertEqual(len(distances(session)[0]), session.past(0).length + 1)

    def test_errors(self):
        for thing in NO_SESSIONS:
            self.assertRaises(BadSession, least_way, thing, None, None)
            self.assertRaises(BadSession, distances, thing)
        session = tree()
        for branch, place, part in ((5, None, "branch"), (-1, 0, "branch"), (True, 0, "branch"), (None, None, "branch"), (0, 9, "place"), (4, 3, "place"), (0, -1, "place"),
                                    (0, True, "place"), (0, None, "place")):
            with self.assertRaises(BadNumber) as caught:
                least_way(session, branch, place)
            self.assertEqual(caught.exception.part, part)
        self.assertEqual(least_way(session=session, branch=4, place=2), [])


if __name__ == "__main__":
    unittest.main()
