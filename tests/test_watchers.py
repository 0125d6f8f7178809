"""Point 68: watchers, against races behind each step; verdicts."""

import unittest

from made import I, all_runs, by_words, tally
from wovens import names, woven
from firstwrong.errors import BadInputs, BadMoment, BadNumber, BadTraces, NotNow
from firstwrong.moments import begun
from firstwrong.races import order_ledger, races
from firstwrong.steps import first_wrong, run
from firstwrong.trees import Program
from firstwrong.watchers import Watcher, verdict
from test_ledgers import some_keeping
from test_races import SHARERS
from test_weavings import NO_TRACES


class Watchers(unittest.TestCase):
    def test_against_races(self):
        for seed in range(500):
            weaving, traces = woven(seed, 14)
            told, rows = races(weaving, traces), names(weaving)
            watcher = Watcher()
            for place, (thread, trace) in enumerate(zip(weaving, traces)):
                ones = [one for one, other in told if other == rows[place]]
                lasts = tuple(max(one for one in ones if one[0] == number) for number in sorted({one[0] for one in ones}))
                self.assertEqual(watcher.seen(thread, trace), lasts)

    def test_runs(self):
        for made, inputs, weaving in SHARERS:
            _, traces = run(begun(made), inputs, weaving)
            ended = {other for _, other in races(weaving, traces)}
            watcher = Watcher()
            for name, trace in zip(names(weaving), traces):
                self.assertEqual(watcher.seen(name[0], trace) != (), name in ended)

    def test_refused(self):
        for seed in range(30):
            weaving, traces = woven(seed, 10)
            watcher, other = Watcher(), Watcher()
            for thread, trace in zip(weaving, traces):
                for thing in (None, 4, -1, True, "0"):
                    with self.assertRaises(BadNumber) as caught:
                        watcher.seen(thing, None)
                    self.assertEqual(caught.exception.part, "thread")
                for thing in NO_TRACES:
                    if isinstance(thing, list) and len(thing) == 1:
                        self.assertRaises(BadTraces, watcher.seen, thread, thing[0])
                self.assertEqual(watcher.seen(thread, trace), other.seen(thread, trace))
        self.assertEqual(Watcher().seen(thread=3, trace=((), (), None)), ())


class Verdicts(unittest.TestCase):
    def all(self):
        return SHARERS + all_runs(25, 25)

    def test_against_races(self):
        met = set()
        for made, inputs, weaving in self.all():
            _, traces = run(begun(made), inputs, weaving)
            rows = names(weaving)
            places = [rows.index(other) for _, other in races(weaving, traces)]
            wrong = first_wrong(begun(made), inputs, weaving)
            told = wrong
            if places and (wrong is None or min(places) <= wrong[0]):
                told = (min(places), weaving[min(places)], "race")
            self.assertEqual(verdict(begun(made), inputs, weaving), told)
            met.add(told and told[2])
        self.assertTrue(met >= set(by_words()) | {None, "race"})

    def test_a_race_that_goes_wrong(self):
        s = ("shared", "s")
        writes = ("a", (), (), (), "none", (("store", s, I(1)),))
        shares = ("b", (), (), (), "none", (("give", ("share", I(1), ("less", ("at", s), I(1)))),))
        alone = ("c", (), (), (), "none", (("give", ("share", I(1), I(0))),))
        made = Program(((("s", "int", 1),), (), (writes, shares, alone), ("a", "b", "c")))
        self.assertEqual(verdict(begun(made), [], [0, 1]), (1, 1, "race"))
        self.assertEqual(first_wrong(begun(made), [], [0, 1]), (1, 1, "share"))
        self.assertEqual(verdict(begun(made), [], [2, 0]), (0, 2, "share"))
        # What stands behind it is not done.
        self.assertEqual(verdict(begun(made), [], [0, 1, 1, 1, 1]), (1, 1, "race"))
        self.assertIsNone(verdict(moment=begun(made), inputs=[], weaving=[]))

    def test_heart_one_verdict(self):
        """If it is no race it is the same for each weaving that keeps the order, at the same step by its name."""
        many = 0
        for number, (made, inputs, weaving) in enumerate(self.all()):
            told = verdict(begun(made), inputs, weaving)
            if told is not None and told[2] == "race":
                continue
            _, traces = run(begun(made), inputs, weaving)
            ledger = order_ledger(weaving, traces)
            for seed in range(3):
                other = some_keeping(ledger, seed + 7 * number)
                again = verdict(begun(made), inputs, other)
                if told is None:
                    self.assertIsNone(again)
                else:
                    self.assertEqual((names(other)[again[0]],) + again[1:], (names(weaving)[told[0]],) + told[1:])
                many += other != weaving
        self.assertGreater(many, 60)

    def test_errors(self):
        start = begun(tally())
        self.assertRaises(BadMoment, verdict, None, None, None)
        self.assertRaises(BadInputs, verdict, start, [True], None)
        for weaving in (None, [2], [True]):
            with self.assertRaises(BadNumber) as caught:
                verdict(start, [], weaving)
            self.assertEqual(caught.exception.part, "weaving")
        with self.assertRaises(NotNow) as caught:
            verdict(start, [], [0, 0, 0, 1, 1, 1])
        self.assertEqual(caught.exception.why, "held")


if __name__ == "__main__":
    unittest.main()
