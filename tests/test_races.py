"""Points 66, 67 and 69: races, against all weavings of small counts, and over runs of small programs."""

import random
import unittest

from made import I, L, all_runs, runs, tally, weaving_of
from wovens import ahead, clocks_by_pairs, counts_of, in_memory, in_order, keeping, keeps, ledger_by_pairs, names, woven
from firstwrong.counting import how_many
from firstwrong.errors import BadInputs, BadMoment, BadNumber, BadTraces, BadWeaving, NotNow
from firstwrong.ledgers import is_lean_ledger, is_ledger
from firstwrong.moments import begun
from firstwrong.races import both_ways, first_race, order_clocks, order_ledger, races
from firstwrong.steps import can_step, run, stepped
from firstwrong.trees import Program
from test_ledgers import some_keeping
from test_weavings import EXAMPLE, NO_TRACES, NO_WEAVINGS


def races_by_pairs(weaving, traces):
    """The races, as the words tell them."""
    known = ahead(weaving, traces, in_order)
    rows = names(weaving)
    return [(rows[i], rows[j]) for j in range(len(rows)) for i in range(j)
            if weaving[i] != weaving[j] and (i, j) not in known and in_memory(traces[i], traces[j])]


def sharers():
    """Small programs whose threads go to the same blocks, with a lock held, without, or now and then."""
    s, q = ("shared", "s"), ("shared", "q")
    add = ("store", s, ("sum", ("at", s), I(1)))
    locked = (("take", "k"), add, ("leave", "k"))
    x, p = L("x"), L("p")
    bodies = [
        (add, add), locked, locked + locked, (add,) + locked, locked + (add,),
        (("take", "l"), add, ("leave", "l")), (("give", ("at", s)),), (("ask", "x", 0, 9), ("store", s, x), ("give", x)),
        (("make", "p", "int", I(1)), ("store", p, I(1)), ("store", q, p)), (("if", ("not", ("same", ("at", q), ("null", "int"))), (("give", ("at", ("at", q))),), ()),),
        (("let", "p", ("at", q)), ("away", p)), (("while", ("below", ("at", s), I(3)), (add,)),), (("take", "k"), ("if", ("below", ("at", s), I(2)), (add,), ()), ("leave", "k")),
        (("call", "", "f", (("block", "m"),)), ("give", ("at", ("block", "m")))), (("give", ("share", I(6), ("at", s))),), (("let", "x", I(1)), ("give", x)),
        (("make", "p", "int", I(2)), ("away", p), ("take", "k"), add, ("leave", "k")), (("store", q, ("block", "m")), ("store", ("block", "m"), I(3))),
        (("take", "k"), ("take", "l"), ("leave", "l"), ("leave", "k"))]
    found = []
    for seed in range(140):
        dice = random.Random(seed)
        functions = [("f", (("p", ("to", "int")),), (), (), "none", (("store", p, ("at", s)),))]
        threads = []
        for number in range(dice.choice((2, 2, 3))):
            body = dice.choice(bodies) + (dice.choice(bodies) if dice.random() < 0.4 else ())
            word = "abc"[number]
            functions.append((word, (), (("x", "int"), ("p", ("to", "int"))), (("m", "int", 1),), "none", body))
            threads.append(word)
        made = Program(((("q", ("to", "int"), 1), ("s", "int", 1)), ("k", "l"), tuple(functions), tuple(threads)))
        inputs = [dice.randint(0, 9) for _ in range(4)]
        found.append((made, inputs, weaving_of(begun(made), inputs, dice.choice((8, 20, 40)), seed)))
    return found


SHARERS = sharers()


class Told(unittest.TestCase):
    def test_examples_by_hand(self):
        weaving, traces = EXAMPLE
        self.assertEqual(races(weaving, traces), [((0, 0), (1, 0)), ((1, 0), (0, 1))])
        self.assertEqual(order_clocks(weaving, traces), [(1, 0, 0, 0), (0, 1, 0, 0), (2, 0, 0, 0)])
        self.assertEqual(order_ledger(weaving, traces), ((2, 1, 0, 0), ()))
        self.assertEqual(how_many(order_ledger(weaving, traces)), 3)
        lock = ((("lock", "a"),), (("lock", "a"),), ())
        weaving, traces = [0, 1, 1], [lock, lock, ((), (), ())]
        self.assertEqual(order_ledger(weaving, traces), ((1, 2, 0, 0), (((0, 0), (1, 0)),)))
        self.assertEqual(races(weaving, traces), [])

    def test_by_pairs(self):
        for seed in range(500):
            weaving, traces = woven(seed, 10)
            known = ahead(weaving, traces, in_order)
            self.assertEqual(order_clocks(tuple(weaving), tuple(traces)), clocks_by_pairs(weaving, known))
            self.assertEqual(order_ledger(weaving, traces), ledger_by_pairs(weaving, known))
            self.assertEqual(races(weaving, traces), races_by_pairs(weaving, traces))

    def test_heart_order(self):
        """A weaving keeps order_ledger exactly if each step stands ahead of those that it is ordered ahead of; it is lean."""
        for seed in range(150):
            weaving, traces = woven(seed, 7, 3)
            rows = names(weaving)
            ledger = order_ledger(weaving, traces)
            self.assertTrue(is_ledger(ledger) and is_lean_ledger(ledger))
            pairs = [(rows[i], rows[j]) for i, j in ahead(weaving, traces, in_order)]
            self.assertEqual(keeping(ledger), keeping((counts_of(weaving), pairs)))

    def test_heart_exactly_if(self):
        """A meeting at a memory cell is a race exactly if in some weaving other stands right ahead of one; then one right ahead of other, too."""
        met = set()
        for seed in range(150):
            weaving, traces = woven(seed, 7, 3)
            rows, told = names(weaving), races(weaving, traces)
            beside = {pair for kept in keeping(order_ledger(weaving, traces)) for pair in zip(names(kept), names(kept)[1:])}
            for j in range(len(rows)):
                for i in range(j):
                    if weaving[i] != weaving[j] and in_memory(traces[i], traces[j]):
                        race = (rows[i], rows[j]) in told
                        self.assertEqual(race, (rows[j], rows[i]) in beside)
                        self.assertTrue(not race or (rows[i], rows[j]) in beside)
                        met.add(race)
        self.assertEqual(met, {True, False})

    def test_errors(self):
        for call in (order_clocks, order_ledger, races):
            for thing in NO_WEAVINGS:
                self.assertRaises(BadWeaving, call, thing, None)
            for thing in NO_TRACES:
                self.assertRaises(BadTraces, call, [0], thing)
            call(weaving=[0], traces=[((), (), None)])

    def test_wrong_orders_nothing(self):
        weaving, traces = [0, 1], [((), (("cell", 0, 1, 0),), ()), ((("cell", 0, 1, 0),), (("wrong",),), ())]
        self.assertEqual(races(weaving, traces), [((0, 0), (1, 0))])
        self.assertEqual(order_ledger(weaving, traces), ((1, 1, 0, 0), ()))


class Runs(unittest.TestCase):
    def all(self):
        return SHARERS + all_runs(30, 25)

    def test_first_race(self):
        met = set()
        for made, inputs, weaving in self.all():
            start = begun(made)
            _, traces = run(start, inputs, weaving)
            told = races_by_pairs(weaving, traces)
            rows = names(weaving)
            first = None
            if told:
                other = min(rows.index(pair[1]) for pair in told)
                one = max(rows.index(pair[0]) for pair in told if pair[1] == rows[other])
                first = (other, weaving[other], rows[one])
            self.assertEqual(first_race(start, inputs, weaving), first)
            met.add(first is None)
        self.assertEqual(met, {True, False})

    def test_both_ways(self):
        many = 0
        for made, inputs, weaving in self.all():
            start = begun(made)
            told = first_race(start, inputs, weaving)
            ways = both_ways(start, inputs, weaving)
            self.assertEqual(ways is None, told is None)
            if ways is None:
                continue
            many += 1
            place, thread, one = told
            moments, traces = run(start, inputs, weaving)
            rows = names(weaving)
            other = rows[place]
            done = {name: (trace[:2], moments[at + 1].stacks[name[0]]) for at, (name, trace) in enumerate(zip(rows, traces))}
            first, second = ways
            self.assertTrue(isinstance(first, tuple) and isinstance(second, tuple))
            self.assertEqual(first[:-2], second[:-2])
            self.assertEqual((names(first)[-2:], names(second)[-2:]), ([one, other], [other, one]))
            self.sequence(weaving[:place + 1], traces[:place + 1], names(first)[:-2], one, other)
            # The first one: all its steps as in the run.
            ends, others = run(start, inputs, first)
            for at, (name, trace) in enumerate(zip(names(first), others)):
                self.assertEqual((trace[:2], ends[at + 1].stacks[name[0]]), done[name])
            # The second one but for its last step; other still meets one.
            _, others = run(start, inputs, second[:-1])
            self.assertTrue(in_memory(others[-1][:2], traces[rows.index(one)][:2]))
            # Other ahead of one is run from the moment behind the same steps.
            self.assertTrue(can_step(run(start, inputs, second[:-2])[0][-1], other[0]))
        self.assertGreater(many, 60)

    def sequence(self, weaving, traces, told, one, other):
        """The steps ahead of both: those that must be there, in a sequence that keeps the order."""
        rows = names(weaving)
        known = ahead(weaving, traces, in_order)
        racing = [pair[0] for pair in races_by_pairs(weaving, traces) if pair[1] == other and pair[0] != one]
        roots = [rows.index(name) for name in racing + [one, other]]
        wanted = set(racing) | {rows[i] for i in range(len(rows)) for root in roots if (i, root) in known}
        self.assertLessEqual(wanted, set(told))
        self.assertNotIn(one, told)
        self.assertTrue(keeps([(rows[i], rows[j]) for i, j in known if rows[i] in told and rows[j] in told],
                              [name[0] for name in told]))

    def test_without_a_race(self):
        """Each weaving that keeps the order leads to the same end, or the same wrong."""
        many, wrongs = 0, 0
        for number, (made, inputs, weaving) in enumerate(self.all()):
            start = begun(made)
            moments, traces = run(start, inputs, weaving)
            if races(weaving, traces):
                continue
            ledger = order_ledger(weaving, traces)
            rows = names(weaving)
            done = {name: (trace[:2], moments[at + 1].stacks[name[0]]) for at, (name, trace) in enumerate(zip(rows, traces))}
            for seed in range(3):
                other = some_keeping(ledger, seed + 5 * number)
                moment, others = start, []
                for at, thread in enumerate(other):
                    moment, trace = stepped(moment, thread, inputs)
                    others.append(trace)
                    self.assertEqual((trace[:2], moment.stacks[thread]), done[names(other)[at]])
                    if moment.wrong is not None:
                        break
                if moments[-1].wrong is None:
                    self.assertEqual(moment, moments[-1])
                else:
                    self.assertEqual(moment.wrong, moments[-1].wrong)
                    self.assertEqual(names(other)[len(others) - 1], rows[-1])
                    wrongs += 1
                self.assertEqual(races(other[:len(others)], others), [])
                many += other != weaving
        self.assertGreater(many, 60)
        self.assertGreater(wrongs, 10)

    def test_what_stands_behind_is_not_done(self):
        s = ("shared", "s")
        made = Program(((("s", "int", 1),), (), (("a", (), (), (), "none", (("store", s, I(1)),)),), ("a", "a")))
        start = begun(made)
        for rest in ([], [0, 1, 0, 1, 1], [1, 1, 1]):
            self.assertEqual(first_race(start, [], [0, 1] + rest), (1, 1, (0, 0)))
            self.assertEqual(both_ways(start, [], [0, 1] + rest), ((0, 1), (1, 0)))
        for call in (first_race, both_ways):
            with self.assertRaises(NotNow) as caught:
                call(start, [], [0, 0, 0, 1])
            self.assertEqual(caught.exception.why, "ended")
            self.assertIsNone(call(start, [], [0, 0]))
            self.assertIsNone(call(moment=start, inputs=[], weaving=[]))

    def test_errors(self):
        start = begun(tally())
        for call in (first_race, both_ways):
            with self.assertRaises(BadMoment) as caught:
                call(None, None, None)
            self.assertIsNone(caught.exception.part)
            for inputs in (None, [True], 5, [None]):
                self.assertRaises(BadInputs, call, start, inputs, None)
            for weaving in (None, [2], [-1], [True], 5):
                with self.assertRaises(BadNumber) as caught:
                    call(start, [], weaving)
                self.assertEqual(caught.exception.part, "weaving")

    def test_tally(self):
        """Only the last look at the cell takes no lock."""
        start = begun(tally())
        met = 0
        for seed in range(20):
            weaving = weaving_of(start, [], 80, seed)
            told = first_race(start, [], weaving)
            if told is not None:
                place = names(weaving).index(told[2])
                self.assertIn("give", [self.statement(start, weaving, place), self.statement(start, weaving, told[0])])
                met += 1
        self.assertGreater(met, 5)

    def statement(self, start, weaving, place):
        """The word of the statement that a step did."""
        return run(start, [], weaving[:place])[0][-1].stacks[weaving[place]][-1][1][0][0]


class Kept(unittest.TestCase):
    def test_nothing_is_changed(self):
        made, inputs, weaving = runs(1, 20, 3)[0]
        kept = (list(inputs), list(weaving))
        first_race(begun(made), inputs, weaving), both_ways(begun(made), inputs, weaving)
        self.assertEqual((inputs, weaving), kept)


if __name__ == "__main__":
    unittest.main()
