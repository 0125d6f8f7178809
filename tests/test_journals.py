"""Point 106: journals, taken up and trimmed."""

import unittest

from made import spill, tally
from sittings_by_hand import sat, starts
from firstwrong.errors import BadLine, BadMoment, BadNumber, BadSession, BadStory, NotNow, TooMany
from firstwrong.journals import journal, taken_up, trimmed
from firstwrong.moments import begun
from firstwrong.sessions import Session
from firstwrong.terms import deed_text
from test_sessions import state

ROWS = starts()
START, STORY = begun(spill()), ((5, 1), (0,) * 30)


def seen(session):
    """All that is told but what is undone."""
    told = state(session)
    return told[:3] + told[4:]


def sessions(many):
    for seed in range(many):
        session = Session(*ROWS[seed % len(ROWS)])
        sat(session, seed + 300, 30)
        yield session


def done(session, deeds):
    """A new session that has done these deeds, None if one cannot be done."""
    other = Session(session.start, session.story, session.each)
    try:
        for deed in deeds:
            other.do(deed)
    except NotNow:
        return None
    return other


class Journals(unittest.TestCase):
    def test_each_beginning(self):
        for session in sessions(2 * len(ROWS)):
            lines = journal(session)
            self.assertEqual(lines, [deed_text(session.program, deed) for deed in session.deeds()])
            for many in range(len(lines) + 1):
                told = taken_up(session.start, session.story, session.each, lines[:many])
                self.assertEqual(seen(told), seen(done(session, session.deeds()[:many])))
                self.assertEqual(told.undone(), [])
            self.assertEqual(taken_up(session.start, session.story, session.each, tuple(lines)) == session, session.undone() == [])

    def test_refused_lines(self):
        lines = ["on", "to 5", "mark a", "edit (local 0 spot 0)", "back"]
        for number in range(len(lines) + 1):
            for bad in ("", "on ", "to 05", "to 100", "goto b", "redo", "edit (local 0 nobody 0)", "drop 0", "lines", None, 5, ("on",), "stop (wrong race)"):
                with self.assertRaises(BadLine) as caught:
                    taken_up(START, STORY, 4, lines[:number] + [bad] + lines[number:])
                self.assertEqual(caught.exception.number, number)
        for thing in (None, 5, "on", {"on": 1}, ("on" for _ in range(2))):
            with self.assertRaises(BadLine) as caught:
                taken_up(START, STORY, 4, thing)
            self.assertIsNone(caught.exception.number)
        # Two that are wrong: the first one.
        with self.assertRaises(BadLine) as caught:
            taken_up(START, STORY, 4, ["on", "back", "back", "nothing"])
        self.assertEqual(caught.exception.number, 2)

    def test_errors(self):
        for thing in (None, 5, []):
            self.assertRaises(BadSession, journal, thing)
            self.assertRaises(BadSession, trimmed, thing)
        self.assertRaises(BadMoment, taken_up, None, None, None, None)
        self.assertRaises(BadStory, taken_up, START, None, None, None)
        self.assertRaises(BadNumber, taken_up, START, STORY, 0, None)
        self.assertEqual(taken_up(start=START, story=STORY, each=4, lines=[]), Session(START, STORY, 4))
        self.assertEqual(journal(session=Session(START, STORY, 4)), [])


class Trimmed(unittest.TestCase):
    def leads(self, session, deeds):
        """Whether deeds lead to an equal present moment, and looks that show the same."""
        other = done(session, deeds)
        return other is not None and other.moment() == session.moment() and other.told() == session.told()

    def by_words(self, session):
        kept = session.deeds()
        going = True
        while going:
            going = False
            for place in reversed(range(len(kept))):
                if self.leads(session, kept[:place] + kept[place + 1:]):
                    kept = kept[:place] + kept[place + 1:]
                    going = True
        return kept

    def test_against_the_words(self):
        fewer = 0
        for session in sessions(2 * len(ROWS)):
            before = state(session)
            told = trimmed(session)
            self.assertEqual(told, self.by_words(session))
            self.assertTrue(self.leads(session, told))
            for place in range(len(told)):
                self.assertFalse(self.leads(session, told[:place] + told[place + 1:]))
            self.assertEqual(state(session), before)
            fewer += len(told) < len(session.deeds())
        self.assertGreater(fewer, 20)

    def test_by_hand(self):
        session = Session(START, STORY, 4)
        for deed in (("on",), ("mark", "a"), ("to", 9), ("stop", ("wrong", "gone")), ("look", ("asked",)), ("back",), ("on",), ("drop", 0)):
            session.do(deed)
        # Two that take one another back are left: each is needed beside the other.
        self.assertEqual(trimmed(session), [("to", 9), ("look", ("asked",)), ("back",), ("on",)])
        # What is undone does not count; numbers of looks do.
        session.undo(), session.undo()
        self.assertEqual(trimmed(session=session), [("to", 9), ("look", ("asked",)), ("back",)])
        session = Session(START, STORY, 4)
        for deed in (("look", ("asked",)), ("hide", 0), ("look", ("free",))):
            session.do(deed)
        self.assertEqual(trimmed(session), [("look", ("asked",)), ("hide", 0), ("look", ("free",))])

    def test_many(self):
        session = Session(begun(tally()), ((), (0, 1) * 20), 8)
        for number in range(63, -1, -1):
            session.do(("to", number % 7))
        # The last one is needed as long as others stand ahead of it.
        self.assertEqual(trimmed(session), [])
        session.do(("on",))
        with self.assertRaises(TooMany) as caught:
            trimmed(session)
        self.assertEqual(caught.exception.most, 64)
        session.undo()
        self.assertEqual(trimmed(session), [])


if __name__ == "__main__":
    unittest.main()
