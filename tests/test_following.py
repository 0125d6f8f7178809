"""Point 65: runs that follow a ledger, whatever the choices."""

import random
import unittest

from made import all_runs, tally, weaving_of
from wovens import counts_of, keeping, keeps, ledgers
from firstwrong.errors import BadChoices, BadInputs, BadLedger, BadMoment, BadNumber, NotNow
from firstwrong.following import followed, free_threads
from firstwrong.ledgers import run_ledger
from firstwrong.moments import begun
from firstwrong.steps import run
from test_ledgers import NO_LEDGERS


class Free(unittest.TestCase):
    def test_against_all_weavings(self):
        """Just those threads are free by which some weaving that keeps the ledger goes on."""
        for ledger in ledgers(120, 6):
            rows = keeping(ledger)
            spots = {counts_of(row[:place]) for row in rows for place in range(len(row) + 1)}
            for a in range(ledger[0][0] + 1):
                for b in range(ledger[0][1] + 1):
                    for c in range(ledger[0][2] + 1):
                        for d in range(ledger[0][3] + 1):
                            done = (a, b, c, d)
                            if done in spots:
                                free = {row[place] for row in rows for place in range(len(row)) if counts_of(row[:place]) == done}
                                self.assertEqual(free_threads(ledger, done), tuple(sorted(free)))
                            else:
                                self.assertRaises(BadNumber, free_threads, ledger, done)

    def test_errors(self):
        for thing in NO_LEDGERS:
            self.assertRaises(BadLedger, free_threads, thing, None)
        ledger = ((1, 1, 0, 0), (((0, 0), (1, 0)),))
        for done in (None, 5, (0, 0, 0), (0, 0, 0, 0, 0), [0, 0, 0, 0], (2, 0, 0, 0), (0, 0, 1, 0), (0, -1, 0, 0), (False, 0, 0, 0), (0, 1, 0, 0)):
            with self.assertRaises(BadNumber) as caught:
                free_threads(ledger, done)
            self.assertEqual(caught.exception.part, "done")
        self.assertEqual([free_threads(ledger, done) for done in ((0, 0, 0, 0), (1, 0, 0, 0), (1, 1, 0, 0))], [(0,), (1,), ()])
        self.assertEqual(free_threads(ledger=((0, 0, 0, 0), ()), done=(0, 0, 0, 0)), ())


class Followed(unittest.TestCase):
    def test_never_stuck(self):
        unlike = 0
        for number, (made, inputs, weaving) in enumerate(all_runs(50, 30)):
            start = begun(made)
            end = run(start, inputs, weaving)[0][-1]
            ledger = run_ledger(start, inputs, weaving)
            for seed in range(4):
                dice = random.Random(seed + 10 * number)
                choices = [dice.choice((0, 1, 2, 3, 10 ** 20)) for _ in weaving]
                told, moment = followed(start, inputs, ledger, choices if seed else tuple(choices))
                self.assertEqual(moment, end)
                self.assertTrue(keeps(ledger[1], told) and counts_of(told) == ledger[0])
                unlike += told != tuple(weaving)
                done = [0] * 4
                for thread, choice in zip(told, choices):
                    free = free_threads(ledger, tuple(done))
                    self.assertEqual(thread, free[choice % len(free)])
                    done[thread] += 1
                self.assertEqual(free_threads(ledger, tuple(done)), ())
        self.assertGreater(unlike, 60)

    def test_another_ledger(self):
        """The errors of stepped, where the next step cannot be done."""
        start = begun(tally())
        self.assertRaises(BadNumber, followed, start, [], ((0, 0, 1, 0), ()), [0])
        with self.assertRaises(NotNow) as caught:
            followed(start, [], ((4, 3, 0, 0), ()), [0] * 3 + [1] * 3 + [0])
        self.assertEqual(caught.exception.why, "held")
        self.assertEqual(followed(start, [], ((0, 0, 0, 0), ()), []), ((), start))

    def test_errors(self):
        start = begun(tally())
        weaving = weaving_of(start, [], 10, 1)
        ledger = run_ledger(start, [], weaving)
        self.assertRaises(BadMoment, followed, None, None, None, None)
        self.assertRaises(BadInputs, followed, start, [True], None, None)
        for thing in NO_LEDGERS:
            self.assertRaises(BadLedger, followed, start, (), thing, None)
        for thing in (None, 5, [], [0] * 9, [0] * 11, [0] * 9 + [-1], [0] * 9 + [True], [0] * 9 + ["0"], {0: 1}):
            self.assertRaises(BadChoices, followed, start, [], ledger, thing)
        self.assertEqual(followed(moment=start, inputs=[], ledger=ledger, choices=[0] * 10)[1], run(start, [], weaving)[0][-1])

    def test_nothing_is_changed(self):
        start = begun(tally())
        inputs, choices = [], [0] * 10
        ledger = run_ledger(start, inputs, weaving_of(start, [], 10, 1))
        followed(start, inputs, ledger, choices)
        self.assertEqual((start, inputs, choices), (begun(tally()), [], [0] * 10))


if __name__ == "__main__":
    unittest.main()
