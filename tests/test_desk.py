"""Point 107: the desk, line by line."""

import random
import unittest

from made import giving, program, spill, tally
from sittings_by_hand import Hand, Refused, some_deed, starts
from firstwrong.desk import Desk
from firstwrong.errors import BadMoment, BadNumber, BadStory, NotNow
from firstwrong.journals import journal
from firstwrong.moments import Moment, begun
from firstwrong.pasts import wrong_of
from firstwrong.sessions import Session, is_deed
from firstwrong.terms import deed_text, is_term, term_text
from firstwrong.ways import least_way
from test_sessions import state

START, STORY = begun(spill()), ((5, 1), (0,) * 30)
STRANGE = (None, 5, True, (), ("on",), b"on", "", " ", "on ", " on", "ON", "to", "to 05", "to  5", "undo ", "redo 1", "wheres", "where is", "way", "way 0", "way 0 0 0", "way 00 0", "way 0 01",
           "way 0  0", "way -1 0", "way 0 10000000000", "way 12345678901 0", "way a b", "way 0 \u0661", "Way 0 0", "way 0 0 ", " way 0 0", "way\t0 0", "told 0", "stop", "mark", "mark 5", "(on)",
           "on\n", "journal journal", "look (lock door)", "edit (local 0 spot #t)")


class Lines(unittest.TestCase):
    def talk(self, desk, *rows):
        for line, *answer in rows:
            self.assertEqual(desk.say(line), tuple(answer), line)

    def test_a_talk(self):
        desk = Desk(START, STORY, 4)
        self.talk(desk, ("where", "at 0 0 of 17"), ("wrong", "wrong 16 0 beyond"), ("told", "nothing"), ("stops", "nothing"), ("looks", "nothing"), ("marks", "nothing"),
                  ("branches", "0"), ("journal", "nothing"), ("way 0 0", "nothing"), ("undo", "cannot undo"), ("redo", "cannot redo"), ("on", "at 0 1"), ("back", "at 0 0"),
                  ("back", "cannot start"), ("to 9", "at 0 9"), ("look (local 0 1 spot)", "at 0 9"), ("look (block 0 1)", "at 0 9"), ("look (wrong)", "at 0 9"),
                  ("look (local 0 1 nobody)", "at 0 9"), ("told", "0 (2)", "1 (made int 4)", "2 #n", "3 ()"), ("hide 1", "at 0 9"),
                  ("looks", "0 (local 0 1 spot)", "2 (wrong)", "3 (local 0 1 nobody)"), ("stop (at #n main #n (int 1))", "at 0 9"), ("stop (wrong beyond)", "at 0 9"),
                  ("stops", "0 (at #n main #n (int 1))", "1 (wrong beyond)"), ("next", "at 0 10"), ("mark b", "at 0 10"), ("mark a", "at 0 10"), ("marks", "a 0 10", "b 0 10"),
                  ("edit (local 0 times 3)", "at 1 11"), ("where", "at 1 11 of 15"), ("wrong", "wrong 14 0 unset"),
                  ("branches", "0", "1 0 10 edit (local 0 times 3)"), ("goto a", "at 0 10"), ("way 1 11", "branch 1", "next"), ("way 1 999", "cannot number"), ("way 9 0", "cannot number"),
                  ("way 9999999999 9999999999", "cannot number"), ("undo", "at 1 11"), ("redo", "at 0 10"), ("clear a", "at 0 10"), ("goto a", "cannot word"), ("lean", "at 2 17"))
        self.assertEqual(desk.say("journal")[-3:], ("goto a", "clear a", "lean"))
        self.assertEqual(desk.say("journal")[0], "on")

    def test_what(self):
        desk = Desk(START, STORY, 4)
        desk.say("on"), desk.say("mark a"), desk.say("undo")
        before = state(desk.session)
        for line in STRANGE:
            self.assertEqual(desk.say(line), ("what",), line)
            self.assertEqual(state(desk.session), before)

    def test_a_look_that_shows_no_term(self):
        """A number of more than 40 digits is none."""
        start = begun(spill())
        for asked, text in ((10 ** 40 - 1, "0 " + "9" * 40), (10 ** 40, "0 ?")):
            moment = Moment(start.program, start.lives, start.memory, start.held, start.stacks, asked, (), None)
            desk = Desk(moment, ((), (0,)), 1)
            desk.say("look (asked)")
            self.assertEqual(desk.say("told"), (text,))

    def test_given_and_free(self):
        desk = Desk(begun(giving()), ((), (0,) * 5), 2)
        self.talk(desk, ("look (given)", "at 0 0"), ("look (free)", "at 0 0"), ("next", "at 0 3"), ("told", "0 (5 -1)", "1 (" + " ".join(["0"] * 32) + ")"))

    def test_against_the_session(self):
        met = set()
        for seed, told in enumerate(starts() + starts()):
            dice = random.Random(seed)
            desk, hand, twin = Desk(*told), Hand(*told), Session(*told)
            made = told[0].program
            for _ in range(40):
                line = dice.choice(("undo", "redo", "where", "wrong", "told", "stops", "looks", "marks", "branches", "journal", "way", "deed", "deed", "deed", "deed", "deed"))
                if line == "deed":
                    deed = some_deed(dice, hand)
                    line = deed_text(made, deed) if is_deed(made, deed) else "deed"
                elif line == "way":
                    line = f"way {dice.randrange(len(hand.pasts) + 1)} {dice.randrange(12)}"
                before = state(desk.session)
                answer = desk.say(line)
                self.assertIsInstance(answer, tuple)
                self.assertEqual(answer, self.by_calls(twin, line, deed))
                self.assertEqual(desk.session, twin)
                if answer == ("what",) or answer[0].startswith("cannot"):
                    self.assertEqual(state(desk.session), before)
                met.add(line.split()[0] + " " + answer[0].split()[0])
                self.follow(hand, line, deed)
        self.assertTrue(met >= {"undo cannot", "redo cannot", "undo at", "redo at", "wrong wrong", "wrong clean", "way cannot", "way nothing", "told nothing", "told 0", "marks nothing"})

    def follow(self, hand, line, deed):
        try:
            if line in ("undo", "redo"):
                hand.undo() if line == "undo" else hand.redo()
            elif line.split()[0] == deed[0]:
                hand.do(deed)
        except Refused:
            pass

    def by_calls(self, session, line, deed):
        """The answer that the calls of a session tell."""
        word, *rest = line.split()
        numbered = lambda pairs: tuple(f"{number} {term_text(thing) if is_term(thing) else '?'}" for number, thing in pairs)
        found = None
        if word == "where":
            found = (f"at {session.branch} {session.place} of {session.past(session.branch).length}",)
        elif line == "wrong":
            told = wrong_of(session.past(session.branch))
            found = ("wrong {} {} {}".format(*told) if told else "clean",)
        elif word in ("told", "stops", "looks"):
            found = numbered({"told": session.told, "stops": session.stops, "looks": session.looks}[word]())
        elif word == "marks":
            found = tuple(f"{mark} {branch} {place}" for mark, (branch, place) in session.marks().items())
        elif word == "branches":
            rows = session.branches()
            found = ("0",) + tuple(f"{number} {parent} {fork} {deed_text(session.program, change)}" for number, (parent, fork, change) in enumerate(rows) if number)
        elif word == "journal":
            found = tuple(journal(session))
        elif word == "way":
            try:
                found = tuple(deed_text(session.program, move) for move in least_way(session, *map(int, rest)))
            except BadNumber:
                return ("cannot number",)
        if found is not None:
            return found or ("nothing",)
        if line == "deed":
            return ("what",)
        try:
            session.undo() if line == "undo" else session.redo() if line == "redo" else session.do(deed)
        except NotNow as error:
            return (f"cannot {error.why}",)
        return (f"at {session.branch} {session.place}",)

    def test_errors(self):
        self.assertRaises(BadMoment, Desk, None, None, None)
        self.assertRaises(BadStory, Desk, START, None, None)
        self.assertRaises(BadNumber, Desk, START, STORY, 0)
        desk = Desk(start=START, story=STORY, each=4)
        self.assertEqual(desk.session, Session(START, STORY, 4))
        self.assertEqual(desk.say(line="where"), ("at 0 0 of 17",))


if __name__ == "__main__":
    unittest.main()
