"""Points 100 to 102: sessions, deed by deed, taken back and done again, against a second version made anew each time."""

import random
import unittest

from made import I, L, program, spill, tally
from sittings_by_hand import Hand, Refused, sat, some_deed, starts
from firstwrong.cells import shown
from firstwrong.errors import BadDeed, BadMoment, BadNumber, BadStory, BadTree, NotNow
from firstwrong.moments import begun
from firstwrong.pasts import Past, moment_at
from firstwrong.sessions import Session, is_deed

START, STORY = begun(spill()), ((5, 1), (0,) * 30)
ROWS = starts()


def state(session):
    """All that a session tells."""
    return (session.branch, session.place, session.deeds(), session.undone(), session.branches(), session.stops(), session.looks(), session.marks(),
            session.moment(), session.told(), [session.past(number) for number in range(len(session.branches()))])


class IsDeed(unittest.TestCase):
    def test_of_any_value(self):
        made = spill()
        look, edit = ("local", 0, 1, "spot"), ("local", 0, "spot", 3)
        good = [("on",), ("back",), ("next",), ("last",), ("lean",), ("to", 0), ("to", 10 ** 9), ("over", 0), ("under", 0), ("out", 0), ("call", 0),
                ("stop", ("wrong", "gone")), ("stop", ("at", None, "main", None, L("spot"))), ("stop", ("watch", look)), ("stop", ("when", I(1))), ("look", look),
                ("look", ("free",)), ("drop", 0), ("drop", 10 ** 9), ("hide", 5), ("mark", "a"), ("clear", "abcdefghijkl"), ("goto", "on"), ("edit", edit),
                ("edit", ("cell", 31, 2 ** 30, 15, None)), ("input", 0, 2 ** 31 - 1), ("input", 10 ** 9, -(2 ** 31)), ("course", ()), ("course", (0, edit)),
                ("course", (0,) * 2048), ("without", 0), ("without", 10 ** 9), ("branch", 0), ("branch", 10 ** 9)]
        for deed in good:
            self.assertTrue(is_deed(made, deed), deed)
            for other in (list(deed), deed + (0,), deed[:-1], (deed,), (deed[0].upper(),) + deed[1:], (None,) + deed[1:]):
                self.assertFalse(is_deed(made, other), other)
            if len(deed) > 1:
                for thing in (None, True, -1, "", "A", [], (), (None,), 2.0, [deed[1]]):
                    if (deed[0], thing) not in (("course", ()),):
                        self.assertFalse(is_deed(made, (deed[0], thing) + deed[2:]), (deed[0], thing))
        for deed in (("to", 10 ** 9 + 1), ("over", 1), ("over", -1), ("drop", 10 ** 9 + 1), ("mark", "abcdefghijklm"), ("mark", "a1"), ("input", 0, 2 ** 31),
                     ("input", 0, True), ("input", True, 0), ("course", (0,) * 2049), ("course", [0]), ("course", (1,)), ("course", (True,)), ("stop", ("wrong", "race")),
                     ("edit", ("local", 1, "spot", 3)), ("look", ("lock", "k")), ("stop", ("at", 1, "main", None, I(1))), ("does",), (), None, 5, "on", ((),)):
            self.assertFalse(is_deed(made, deed), deed)
        for thing in (None, 5, begun(made)):
            with self.assertRaises(BadTree) as caught:
                is_deed(thing, ("on",))
            self.assertIsNone(caught.exception.at)
        self.assertTrue(is_deed(program=made, thing=("on",)))


class Sessions(unittest.TestCase):
    def look(self, session, hand):
        """The session tells what the hand tells."""
        self.assertEqual((session.branch, session.place), (hand.branch, hand.place))
        self.assertEqual((session.deeds(), session.undone()), (hand.present, hand.taken_back))
        self.assertEqual(session.branches(), hand.rows)
        self.assertEqual([session.past(number) for number in range(len(hand.pasts))], hand.pasts)
        self.assertEqual((session.stops(), session.looks()), (sorted(hand.stops.items()), sorted(hand.looks.items())))
        self.assertEqual(list(session.marks().items()), sorted(hand.marks.items()))
        moment = moment_at(hand.pasts[hand.branch], hand.place)[0]
        self.assertEqual(session.moment(), moment)
        self.assertEqual(session.told(), [(number, shown(moment, hand.looks[number])) for number in sorted(hand.looks)])

    def test_against_the_hand(self):
        met = set()
        for seed in range(4 * len(ROWS)):
            start, story, each = ROWS[seed % len(ROWS)]
            session, hand, dice = Session(start, story, each), Hand(start, story, each), random.Random(seed)
            self.assertEqual((session.start, session.story, session.each, session.program), (start, story, each, start.program))
            for _ in range(45):
                kind = dice.random()
                deed = "undo" if kind < 0.12 else "redo" if kind < 0.2 else some_deed(dice, hand)
                before = state(session)
                try:
                    self.assertIsNone(self.done(hand, deed))
                except Refused as error:
                    with self.assertRaises(NotNow) as caught:
                        self.done(session, deed)
                    self.assertEqual(caught.exception.why, error.args[0])
                    self.assertEqual(state(session), before)
                    met.add((deed[0] if isinstance(deed, tuple) else deed, error.args[0]))
                else:
                    self.assertIsNone(self.done(session, deed))
                    met.add((deed[0] if isinstance(deed, tuple) else deed, None))
                self.look(session, hand)
        words = {"on", "back", "next", "last", "to", "over", "under", "out", "call", "stop", "look", "drop", "hide", "mark", "clear", "goto", "branch", "edit", "input",
                 "course", "without", "lean", "undo", "redo"}
        self.assertEqual({word for word, why in met if why is None}, words)
        self.assertTrue(met >= {("on", "end"), ("back", "start"), ("to", "place"), ("next", "end"), ("last", "start"), ("over", "ended"), ("over", "none"), ("under", "none"),
                                ("out", "none"), ("out", "ended"), ("call", "none"), ("drop", "number"), ("hide", "number"), ("clear", "word"), ("goto", "word"),
                                ("branch", "number"), ("edit", "idle"), ("input", "number"), ("without", "number"), ("lean", "clean"), ("undo", "undo"), ("redo", "redo")})

    def done(self, one, deed):
        if deed == "undo":
            return one.undo()
        return one.redo() if deed == "redo" else one.do(deed)

    def test_hearts(self):
        """A new session that does just the present deeds tells the same; the moment hangs on branch and place alone."""
        for seed in range(2 * len(ROWS)):
            start, story, each = ROWS[seed % len(ROWS)]
            session = Session(start, story, each)
            sat(session, seed)
            other = Session(start, story, each)
            for deed in session.deeds():
                other.do(deed)
            self.assertEqual([part for place, part in enumerate(state(other)) if place != 3], [part for place, part in enumerate(state(session)) if place != 3])
            self.assertEqual(other == session, session.undone() == [])
            self.assertEqual(session.moment(), moment_at(session.past(session.branch), session.place)[0])
            self.assertNotEqual(session, Session(start, story, 2 if each == 1 else 1))

    def test_equal(self):
        one, other = Session(START, STORY, 4), Session(START, STORY, 4)
        self.assertEqual(one, other)
        one.do(("on",))
        self.assertNotEqual(one, other)
        one.undo()
        self.assertNotEqual(one, other)
        other.do(("on",))
        other.undo()
        self.assertEqual(one, other)
        one.redo()
        self.assertNotEqual(one, other)
        for thing in (None, 5, Past(START, STORY, 4)):
            self.assertNotEqual(one, thing)
        self.assertNotEqual(Session(START, STORY, 4), Session(START, STORY, 5))
        self.assertNotEqual(Session(START, STORY, 4), Session(START, ((5,), STORY[1]), 4))

    def test_errors_of_a_past(self):
        with self.assertRaises(BadMoment) as caught:
            Session(None, None, None)
        self.assertIsNone(caught.exception.part)
        self.assertRaises(BadStory, Session, START, [(), ()], None)
        for each in (0, 257, True, None):
            with self.assertRaises(BadNumber) as caught:
                Session(START, STORY, each)
            self.assertEqual(caught.exception.part, "each")
        session = Session(start=START, story=STORY, each=256)
        before = state(session)
        for thing in (None, 5, (), ("on", 1), "on", ["on"], ("to", True)):
            self.assertRaises(BadDeed, session.do, thing)
        self.assertEqual(state(session), before)
        for number in (1, -1, True, None):
            with self.assertRaises(BadNumber) as caught:
                session.past(number)
            self.assertEqual(caught.exception.part, "number")
        self.assertEqual(session.past(number=0), Past(START, STORY, 256))
        self.assertIsNone(session.do(deed=("on",)))


class Deeds(unittest.TestCase):
    def refused(self, session, deed, why):
        before = state(session)
        with self.assertRaises(NotNow) as caught:
            session.do(deed)
        self.assertEqual(caught.exception.why, why)
        self.assertEqual(state(session), before)

    def test_moves(self):
        session = Session(START, STORY, 4)
        self.refused(session, ("back",), "start")
        self.refused(session, ("last",), "start")
        session.do(("next",))
        self.assertEqual(session.place, 17)
        self.refused(session, ("on",), "end")
        self.refused(session, ("next",), "end")
        session.do(("last",))
        self.assertEqual(session.place, 0)
        session.do(("to", 17)), session.do(("to", 0))
        self.refused(session, ("to", 18), "place")
        self.refused(session, ("to", 10 ** 9), "place")
        session.do(("stop", ("watch", ("local", 0, 1, "spot"))))
        session.do(("stop", ("wrong", "beyond")))
        # spot is set by deeds 2, 5, 8, 11 and 14; the wrong one is deed 16.
        places = []
        for _ in range(6):
            session.do(("next",))
            places.append(session.place)
        self.assertEqual(places, [3, 6, 9, 12, 15, 17])
        session.do(("last",))
        self.assertEqual(session.place, 15)

    def test_numbers_of_stops_and_looks(self):
        """They are how many such deeds are present ahead, dropped ones counted, those taken back not."""
        for deed, gone, told in ((("stop", ("wrong", "gone")), "drop", lambda s: s.stops()), (("look", ("free",)), "hide", lambda s: s.looks())):
            session = Session(START, STORY, 4)
            numbers = lambda: [number for number, _ in told(session)]
            for _ in range(3):
                session.do(deed)
            session.do((gone, 1))
            self.assertEqual(numbers(), [0, 2])
            session.do(deed)
            self.assertEqual(numbers(), [0, 2, 3])
            self.refused(session, (gone, 1), "number")
            self.refused(session, (gone, 4), "number")
            session.undo()
            session.do(deed)
            self.assertEqual(numbers(), [0, 2, 3])
            while len(numbers()) < 16:
                session.do(deed)
            self.refused(session, deed, "many")
            session.do((gone, 0))
            session.do(deed)
            self.assertEqual((len(numbers()), numbers()[-1]), (16, 17))
            # The others are counted by themselves.
            session.do(("look", ("free",)) if deed[0] == "stop" else ("stop", ("wrong", "gone")))
            self.assertEqual((session.looks() if deed[0] == "stop" else session.stops())[0][0], 0)

    def test_marks(self):
        session = Session(START, STORY, 4)
        words = [letter for letter in "abcdefghijklmnop"]
        for word in reversed(words):
            session.do(("mark", word))
        self.assertEqual(list(session.marks()), words)
        self.refused(session, ("mark", "q"), "many")
        session.do(("on",))
        session.do(("mark", "c"))
        self.assertEqual(session.marks()["c"], (0, 1))
        session.do(("clear", "a"))
        self.refused(session, ("clear", "a"), "word")
        self.refused(session, ("goto", "a"), "word")
        session.do(("mark", "q"))
        session.do(("goto", "b"))
        self.assertEqual((session.branch, session.place), (0, 0))
        session.do(("without", 5))
        session.do(("goto", "c"))
        self.assertEqual((session.branch, session.place), (0, 1))

    def test_branches(self):
        session = Session(START, STORY, 4)
        session.do(("to", 10))
        session.do(("edit", ("local", 0, "times", 2)))
        self.assertEqual((session.branch, session.place), (1, 11))
        self.assertEqual(session.branches(), [(None, None, None), (0, 10, ("edit", ("local", 0, "times", 2)))])
        session.do(("branch", 0))
        self.assertEqual((session.branch, session.place), (0, 11))
        session.do(("to", 17))
        session.do(("branch", 1))
        self.assertEqual((session.branch, session.place), (1, min(17, session.past(1).length)))
        self.refused(session, ("branch", 2), "number")
        session.do(("branch", 0))
        session.do(("input", 0, 3))
        self.assertEqual((session.branch, session.place, session.branches()[2]), (2, 0, (0, 0, ("input", 0, 3))))
        self.refused(session, ("input", 2, 3), "number")
        session.do(("course", (0, 0)))
        self.assertEqual((session.branch, session.place, session.past(3).length), (3, 0, 2))
        self.refused(session, ("without", 2), "number")
        self.refused(session, ("lean",), "clean")
        self.refused(session, ("edit", ("local", 0, "nobody", 2)), "idle")
        self.assertEqual(session.branches()[3], (2, 2, ("course", (0, 0))))
        session.undo()
        self.assertEqual((session.branch, len(session.branches())), (2, 3))
        session.do(("branch", 0))
        session.do(("lean",))
        self.assertEqual((session.branch, session.place), (3, session.past(3).length))
        # A fork is the length of both if their deeds do not part.
        session.do(("input", 1, 0))
        self.assertEqual(session.branches()[4], (3, session.past(3).length, ("input", 1, 0)))

    def test_many_branches(self):
        session = Session(START, STORY, 4)
        for number in range(1, 32):
            session.do(("input", 0, number % 9))
        self.assertEqual(len(session.branches()), 32)
        # Ahead of all others.
        for deed in (("input", 0, 1), ("input", 9, 1), ("edit", ("local", 0, "spot", 3)), ("edit", ("local", 0, "nobody", 3)), ("course", (0,) * 2048), ("course", ()),
                     ("without", 10 ** 9), ("without", 0), ("lean",)):
            self.refused(session, deed, "many")
        session.undo()
        session.do(("course", ()))
        self.assertEqual(len(session.branches()), 32)

    def test_long_stories(self):
        start = begun(tally())
        session = Session(start, ((), (0,) * 2048), 256)
        # Idle is told ahead of the length of the story.
        self.refused(session, ("edit", ("local", 0, "nobody", 1)), "idle")
        self.refused(session, ("edit", ("local", 0, "turn", 1)), "story")
        session.do(("on",))
        self.refused(session, ("course", (0,) * 2048), "story")
        session.do(("course", (0,) * 2047))
        self.assertEqual(len(session.past(1).story[1]), 2048)
        made = program((("let", "x", I(0)),) + (("let", "x", I(1)),) * 63 + (("give", ("share", I(1), I(0))),), (("x", "int"),))
        self.refused(Session(begun(made), ((), (0,) * 65), 8), ("lean",), "length")
        self.refused(Session(begun(made), ((), (0,) * 64), 8), ("lean",), "clean")

    def test_undo_and_redo(self):
        session = Session(START, STORY, 4)
        for call, why in ((session.undo, "undo"), (session.redo, "redo")):
            with self.assertRaises(NotNow) as caught:
                call()
            self.assertEqual(caught.exception.why, why)
        states = [state(session)]
        for deed in (("on",), ("stop", ("wrong", "gone")), ("look", ("asked",)), ("mark", "a"), ("edit", ("local", 0, "spot", 3)), ("drop", 0), ("clear", "a"), ("branch", 0),
                     ("hide", 0), ("to", 5)):
            session.do(deed)
            states.append(state(session))
        everything = session.deeds()
        for number in range(9, -1, -1):
            self.assertIsNone(session.undo())
            told = state(session)
            self.assertEqual((told[:3], told[3], told[4:]), (states[number][:3], everything[number:], states[number][4:]))
        # A deed that is refused leaves what is undone.
        self.refused(session, ("back",), "start")
        for number in range(1, 11):
            self.assertIsNone(session.redo())
            self.assertEqual((state(session)[:3], state(session)[4:]), (states[number][:3], states[number][4:]))
        session.undo()
        session.do(("to", 6))
        self.assertEqual(session.undone(), [])

    def test_what_is_told_is_new(self):
        session = Session(START, STORY, 4)
        for deed in (("stop", ("wrong", "gone")), ("look", ("asked",)), ("mark", "a"), ("input", 0, 1), ("on",)):
            session.do(deed)
        session.undo()
        before = state(session)
        for told in (session.deeds(), session.undone(), session.branches(), session.stops(), session.looks(), session.marks(), session.told()):
            told.clear()
        self.assertEqual(state(session), before)


if __name__ == "__main__":
    unittest.main()
