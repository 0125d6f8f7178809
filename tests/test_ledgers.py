"""Points 61, 62 and 64: ledgers, lean ones, and the recorder, against all weavings of small counts."""

import random
import unittest

from made import all_runs, runs
from wovens import WRONG, ahead, counts_of, do_meet, keeping, keeps, ledger_by_pairs, ledgers, names, shuffled, woven
from firstwrong.errors import BadEntry, BadInputs, BadLedger, BadMoment, BadNumber, BadTraces, BadWeaving, NotNow
from firstwrong.ledgers import (Recorder, is_ledger, is_lean_ledger, keeps_ledger, least_ledger, leaned_ledger, lets_in,
                                run_ledger)
from firstwrong.moments import begun
from firstwrong.steps import run
from test_weavings import EXAMPLE, NO_TRACES, NO_WEAVINGS

ONE, OTHER = (0, 0), (1, 0)
NO_LEDGERS = (None, 5, (), ((1, 1, 0, 0),), [(1, 1, 0, 0), ()], ([1, 1, 0, 0], ()), ((1, 1, 0), ()), ((1, 1, 0, 0, 0), ()), ((1, 1, 0, 0), []),
              ((1, True, 0, 0), ()), ((1, -1, 0, 0), ()), ((2001, 0, 0, 0), ()), ((1, 1, 0, 0), (ONE, OTHER)), ((1, 1, 0, 0), ([ONE, OTHER],)),
              ((1, 1, 0, 0), ((ONE, [1, 0]),)), ((1, 1, 0, 0), ((ONE, (1, 1)),)), ((1, 1, 0, 0), ((ONE, (2, 0)),)), ((1, 1, 0, 0), ((ONE, (1, -1)),)),
              ((1, 1, 0, 0), ((ONE, (True, 0)),)), ((1, 1, 0, 0), (((0, False), OTHER),)), ((2, 1, 0, 0), ((ONE, (0, 1)),)),
              ((1, 1, 0, 0), ((ONE, ONE),)), ((1, 1, 0, 0), ((ONE, OTHER), (ONE, OTHER))), ((1, 1, 0, 0), ((ONE, OTHER), (OTHER, ONE))),
              ((2, 1, 0, 0), (((0, 1), OTHER), (ONE, OTHER))), ((1, 1, 0, 0), ((ONE, OTHER, ()),)), ((1, 1, 0, 0), (None,)),
              ((2, 2, 0, 0), (((0, 1), (1, 0)), ((1, 1), (0, 0)))), ((1, 1, 1, 0), (((0, 0), (1, 0)), ((1, 0), (2, 0)), ((2, 0), (0, 0)))),
              ((1, 1, 0, 0), (((0, 0, 0), OTHER),)))
ALL = ledgers(160)


class IsLedger(unittest.TestCase):
    def test_of_any_value(self):
        for thing in NO_LEDGERS:
            self.assertFalse(is_ledger(thing), thing)
        for thing in (((0, 0, 0, 0), ()), ((2000, 2000, 2000, 2000), ()), ((1, 1, 0, 0), ((ONE, OTHER),)), ((1, 1, 0, 0), ((OTHER, ONE),)),
                      ((2, 2, 0, 0), (((0, 0), (1, 0)), ((1, 0), (0, 1)), ((1, 1), (0, 1))))):
            self.assertTrue(is_ledger(thing), thing)

    def test_against_all_weavings(self):
        met = set()
        for seed in range(400):
            dice = random.Random(seed)
            counts = tuple(dice.choice(((2, 2, 1, 0), (2, 1, 1, 1), (3, 2, 0, 0), (0, 2, 0, 3))))
            rows = [(thread, k) for thread in range(4) for k in range(counts[thread])]
            pairs = [(one, other) for one in rows for other in rows if one[0] != other[0]]
            ledger = (counts, tuple(sorted(dice.sample(pairs, dice.randint(0, 5)))))
            kept = bool(keeping(ledger))
            self.assertEqual(is_ledger(ledger), kept)
            met.add(kept)
        self.assertEqual(met, {True, False})

    def test_keeps(self):
        for number, ledger in enumerate(ALL):
            self.assertTrue(is_ledger(ledger))
            for seed in range(5):
                weaving = shuffled(ledger[0], seed)
                self.assertEqual(keeps_ledger(ledger, weaving), keeps(ledger[1], weaving))
            self.assertTrue(all(keeps_ledger(ledger, weaving) for weaving in keeping(ledger)[:20]))
            self.assertFalse(keeps_ledger(ledger, shuffled(ledger[0], 0) + [number % 4]))
            self.assertEqual(keeps_ledger(ledger, []), ledger[0] == (0, 0, 0, 0))

    def test_errors(self):
        for thing in NO_LEDGERS:
            for call in (lambda: keeps_ledger(thing, None), lambda: lets_in(thing, None), lambda: is_lean_ledger(thing), lambda: leaned_ledger(thing)):
                self.assertRaises(BadLedger, call)
        ledger = ((1, 1, 0, 0), ((ONE, OTHER),))
        for thing in NO_WEAVINGS:
            self.assertRaises(BadWeaving, keeps_ledger, ledger, thing)
        for thing in (None, 5, (), (OTHER, ONE), [ONE, OTHER], ((False, 0), OTHER), (ONE, (True, 0)), (ONE, [1, 0]), (ONE, OTHER, ()), ONE):
            self.assertRaises(BadEntry, lets_in, ledger, thing)
        self.assertRaises(BadEntry, lets_in, ((1, 1, 0, 0), ()), (ONE, OTHER))


class Least(unittest.TestCase):
    def test_example_by_hand(self):
        weaving, traces = EXAMPLE
        self.assertEqual(least_ledger(weaving, traces), ((2, 1, 0, 0), (((0, 0), (1, 0)), ((1, 0), (0, 1)))))

    def test_by_pairs(self):
        for seed in range(400):
            weaving, traces = woven(seed, 12)
            told = least_ledger(weaving, traces)
            self.assertEqual(told, ledger_by_pairs(weaving, ahead(weaving, traces, do_meet)))
            self.assertTrue(is_ledger(told))

    def test_heart_least(self):
        """A weaving keeps it exactly if all meetings stand the same way about; it is lean."""
        for seed in range(120):
            weaving, traces = woven(seed, 7, 3)
            rows = names(weaving)
            met = [(rows[i], rows[j]) for j in range(len(rows)) for i in range(j) if weaving[i] != weaving[j] and do_meet(traces[i], traces[j])]
            ledger = least_ledger(weaving, traces)
            self.assertEqual(keeping(ledger), keeping((ledger[0], met)))
            self.assertTrue(is_lean_ledger(ledger))
            self.assertEqual(leaned_ledger((ledger[0], tuple(sorted(set(met))))), ledger)

    def test_errors(self):
        for thing in NO_WEAVINGS:
            self.assertRaises(BadWeaving, least_ledger, thing, None)
        for thing in NO_TRACES:
            self.assertRaises(BadTraces, least_ledger, [0], thing)

    def test_many_steps(self):
        weaving = [thread for _ in range(2000) for thread in range(4)]
        traces = [((), (("lock", "a"),), ())] * 8000
        ledger = least_ledger(weaving, traces)
        self.assertEqual(len(ledger[1]), 7999)
        self.assertTrue(is_ledger(ledger) and is_lean_ledger(ledger) and keeps_ledger(ledger, weaving))
        self.assertIsNotNone(lets_in(ledger, ledger[1][4000]))


class Runs(unittest.TestCase):
    def test_enough(self):
        """Each weaving that keeps a run's ledger leads to the same end, by the same reads and writes of each step."""
        unlike = 0
        for number, (made, inputs, weaving) in enumerate(all_runs(50, 30)):
            start = begun(made)
            moments, traces = run(start, inputs, weaving)
            ledger = run_ledger(start, inputs, weaving)
            self.assertEqual(ledger, least_ledger(weaving, traces))
            done = {name: (trace[:2], moments[at + 1].stacks[name[0]]) for at, (name, trace) in enumerate(zip(names(weaving), traces))}
            for seed in range(4):
                other = some_keeping(ledger, seed + 10 * number)
                ends, others = run(start, inputs, other)
                self.assertEqual(ends[-1], moments[-1])
                for at, (name, trace) in enumerate(zip(names(other), others)):
                    self.assertEqual((trace[:2], ends[at + 1].stacks[name[0]]), done[name])
                unlike += other != weaving
        self.assertGreater(unlike, 60)

    def test_errors(self):
        made, inputs, weaving = runs(1)[0]
        self.assertRaises(BadMoment, run_ledger, None, None, None)
        self.assertRaises(BadInputs, run_ledger, begun(made), None, None)
        self.assertRaises(BadNumber, run_ledger, begun(made), inputs, [len(made.threads)])
        self.assertRaises(NotNow, run_ledger, begun(made), inputs, [0] * 500)


def some_keeping(ledger, seed):
    """A weaving that keeps a ledger, by chance."""
    dice = random.Random(seed)
    done, found = [0] * 4, []
    while len(found) < sum(ledger[0]):
        free = [thread for thread in range(4) if done[thread] < ledger[0][thread]
                and all(one[1] < done[one[0]] for one, other in ledger[1] if other == (thread, done[thread]))]
        found.append(dice.choice(free))
        done[found[-1]] += 1
    return found


class Lean(unittest.TestCase):
    def test_lets_in(self):
        met = set()
        for counts, entries in ALL:
            ledger = (counts, entries)
            lean = []
            for entry in entries:
                one, other = entry
                rest = tuple(known for known in entries if known != entry)
                told = lets_in(ledger, entry)
                loose = any(not keeps((entry,), weaving) for weaving in keeping((counts, rest)))
                self.assertEqual(told is not None, loose)
                if loose:
                    lean.append(entry)
                    self.assertIsInstance(told, tuple)
                    self.assertEqual(counts_of(told), counts)
                    self.assertTrue(keeps(rest, told))
                    rows = names(told)
                    self.assertEqual(rows.index(other) + 1, rows.index(one))
                met.add(loose)
            self.assertEqual(is_lean_ledger(ledger), lean == list(entries))
            self.assertEqual(leaned_ledger(ledger), (counts, tuple(lean)))
            self.assertEqual(keeping(leaned_ledger(ledger)), keeping(ledger))
            self.assertTrue(is_lean_ledger(leaned_ledger(ledger)))
        self.assertEqual(met, {True, False})

    def test_no_fewer(self):
        """No ledger that is kept by just these weavings has fewer entries, or lacks one of the lean one's."""
        for counts, entries in ledgers(60, 5):
            lean = set(leaned_ledger((counts, entries))[1])
            kept = keeping((counts, entries))
            rows = [(thread, k) for thread in range(4) for k in range(counts[thread])]
            pairs = [(one, other) for one in rows for other in rows if one[0] != other[0] and all(keeps(((one, other),), woven_) for woven_ in kept)]
            for number in range(2 ** min(len(pairs), 8)):
                some = [pair for place, pair in enumerate(pairs[:8]) if number >> place & 1]
                if len(pairs) <= 8 and keeping((counts, some)) == kept:
                    self.assertLessEqual(lean, set(some))


class Recorders(unittest.TestCase):
    def test_grows(self):
        for seed in range(300):
            weaving, traces = woven(seed, 10)
            recorder = Recorder()
            self.assertEqual(recorder.ledger(), ((0, 0, 0, 0), ()))
            before = ()
            for place, (thread, trace) in enumerate(zip(weaving, traces)):
                fresh = recorder.seen(thread, trace)
                ledger = recorder.ledger()
                self.assertEqual(ledger, least_ledger(weaving[:place + 1], traces[:place + 1]))
                self.assertEqual(tuple(sorted(before + fresh)), ledger[1])
                self.assertEqual(fresh, tuple(sorted(fresh)))
                self.assertTrue(all(other == names(weaving)[place] for _, other in fresh))
                before = ledger[1]

    def test_refused(self):
        """What is refused changes nothing."""
        for seed in range(20):
            weaving, traces = woven(seed, 8)
            recorder, other = Recorder(), Recorder()
            for thread, trace in zip(weaving, traces):
                for thing in (None, 4, -1, True, "0", (0,)):
                    with self.assertRaises(BadNumber) as caught:
                        recorder.seen(thing, None)
                    self.assertEqual(caught.exception.part, "thread")
                for thing in NO_TRACES:
                    if not (isinstance(thing, list) and len(thing) == 1):
                        continue
                    self.assertRaises(BadTraces, recorder.seen, thread, thing[0])
                self.assertEqual(recorder.seen(thread, trace), other.seen(thread, trace))
            self.assertEqual(recorder.ledger(), other.ledger())
            self.assertEqual(recorder, other)

    def test_equal(self):
        a, b, c = ("cell", 0, 1, 0), ("lock", "a"), ("lock", 5)

        def of(*steps):
            recorder = Recorder()
            for thread, trace in steps:
                recorder.seen(thread, trace)
            return recorder

        whole = of((0, ((a, b, c), (), 1)), (1, ((), (a, b), 2)))
        self.assertEqual(whole, of((0, ((c, b, a, a), (), None)), (1, ((), (b, a), ()))))
        for other in (of(), of((0, ((a, b, c), (), 1))), of((1, ((), (a, b), 2)), (0, ((a, b, c), (), 1))), of((0, ((a, b), (), 1)), (1, ((), (a, b), 2))),
                      of((0, ((a, b, c), (), 1)), (1, ((a,), (a, b), 2))), of((0, ((a, b, c), (), 1)), (2, ((), (a, b), 2)))):
            self.assertNotEqual(whole, other)
        self.assertEqual(of(), of())
        self.assertNotEqual(of(), None)
        self.assertNotEqual(of(), ((0, 0, 0, 0), ()))
        # One ledger, but by other cells.
        self.assertNotEqual(of((0, ((), (), ()))), of((0, ((a,), (), ()))))

    def test_wrong(self):
        recorder = Recorder()
        recorder.seen(0, ((), (), ()))
        recorder.seen(1, ((), (), ()))
        self.assertEqual(recorder.seen(2, ((), (WRONG,), ())), (((0, 0), (2, 0)), ((1, 0), (2, 0))))
        self.assertEqual(recorder.seen(thread=3, trace=((), (), ())), (((2, 0), (3, 0)),))


if __name__ == "__main__":
    unittest.main()
