"""Points 96 and 97: weavings that are alike, and the kinds of them."""

import itertools
import unittest

from made import I, L, inputs_of, program, programs, runs
from firstwrong.alikes import are_alike, kinds_of, least_alike, met
from firstwrong.errors import BadInputs, BadMoment, BadNumber, NotNow, TooMany, WrongError
from firstwrong.moments import begun
from firstwrong.steps import run, stepped


def steps_of(moment, inputs, weaving):
    _, traces = run(moment, inputs, weaving)
    return [(thread, set(reads), set(writes)) for thread, (reads, writes, _) in zip(weaving, traces)]


def meet(one, other):
    wrong = {("wrong",)}
    return bool(one[0] == other[0] or one[2] == wrong or other[2] == wrong or one[2] & (other[1] | other[2])
                or other[2] & one[1])


def class_of(moment, inputs, weaving):
    """All weavings that come by exchanges of neighbours, each exchange judged by its own run."""
    found = {tuple(weaving)}
    left = [tuple(weaving)]
    while left:
        now = left.pop()
        steps = steps_of(moment, inputs, now)
        for place in range(len(now) - 1):
            if not meet(steps[place], steps[place + 1]):
                other = now[:place] + (now[place + 1], now[place]) + now[place + 2:]
                if other not in found:
                    found.add(other)
                    left.append(other)
    return found


def all_weavings(moment, inputs, many):
    """All that can be done, of so many steps or of fewer behind which none can."""
    if many == 0:
        return [()]
    found = []
    for thread in range(len(moment.stacks)):
        try:
            after = stepped(moment, thread, inputs)[0]
        except WrongError:
            continue
        found += [(thread,) + rest for rest in all_weavings(after, inputs, many - 1)]
    return found or [()]


def shared_ints(threads, locks=False):
    s = ("shared", "s")
    body = (("let", "x", ("at", s)), ("store", s, ("sum", L("x"), I(1))))
    if locks:
        body = (("take", "k"),) + body + (("leave", "k"),)
    return program(body, (("x", "int"),), (("s", "int", 1),), ("k",) if locks else (), threads=("main",) * threads)


class Alikes(unittest.TestCase):
    def test_by_hand(self):
        start = begun(shared_ints(2))
        # let reads the cell, store writes it, the end does neither.
        self.assertEqual(met(start, [], [0, 1, 1, 0]), [(0, 2), (0, 3), (1, 2), (1, 3), (2, 3)])
        self.assertEqual(least_alike(start, [], [1, 0, 0, 1]), (0, 1, 0, 1))
        self.assertEqual(least_alike(start, [], [1, 0, 1, 0]), (0, 1, 1, 0))
        self.assertIs(are_alike(start, [], [1, 0, 0], (0, 1, 0)), True)
        self.assertIs(are_alike(start, [], [1, 0, 0], [0, 1, 1]), False)
        self.assertIs(are_alike(start, [], [1, 0, 0], [0, 0, 1]), False)
        self.assertIs(are_alike(start, [], [0], [0, 0]), False)
        self.assertEqual(met(start, [], []), [])
        self.assertEqual(least_alike(start=start, inputs=[], weaving=[]), ())
        self.assertEqual(kinds_of(start=start, inputs=[], many=2), [(0, 0), (0, 1), (1, 1)])
        self.assertEqual(kinds_of(start, [], 0), [()])

    def test_wrong_steps_meet_all(self):
        body = (("give", ("share", I(1), I(0))),)
        start = begun(program(body, threads=("main", "quiet"), more=(("quiet", (), (), (), "none", (("return",),)),)))
        self.assertEqual(met(start, [], [1, 0]), [(0, 1)])
        self.assertEqual(kinds_of(start, [], 5), [(0,), (1, 0)])

    def test_heart(self):
        done = 0
        for made, inputs, weaving in runs(60, 9):
            start = begun(made)
            last = run(start, inputs, weaving)[0][-1]
            steps = steps_of(start, inputs, weaving)
            pairs = [(i, j) for i in range(len(weaving)) for j in range(i + 1, len(weaving)) if meet(steps[i], steps[j])]
            self.assertEqual(met(start, inputs, weaving), pairs)
            alike = class_of(start, inputs, weaving)
            if len(alike) > 150:
                continue
            done += 1
            for other in alike:
                self.assertEqual(run(start, inputs, other)[0][-1], last)
                self.assertEqual(least_alike(start, inputs, list(other)), min(alike))
                self.assertTrue(are_alike(start, inputs, weaving, other))
                own = [[step for step in steps_of(start, inputs, w) if step[0] == t] for w in (weaving, other) for t in range(4)]
                self.assertEqual(own[:4], own[4:])
        self.assertGreater(done, 30)

    def test_kinds_by_all_weavings(self):
        starts = [(begun(shared_ints(2)), []), (begun(shared_ints(2, True)), []), (begun(shared_ints(3)), [])]
        starts += [(begun(made), inputs_of(n)) for n, made in enumerate(programs(25, 400))]
        for start, inputs in starts:
            for many in (0, 1, 2, 4, 6):
                every = all_weavings(start, inputs, many)
                least = sorted({least_alike(start, inputs, weaving) for weaving in every})
                self.assertEqual(kinds_of(start, inputs, many), least)
                self.assertEqual([w for w in every if least_alike(start, inputs, w) == w], least)

    def test_exactly_if_alike(self):
        start = begun(shared_ints(2, True))
        every = all_weavings(start, [], 6)
        for one, other in itertools.product(every, every):
            self.assertEqual(are_alike(start, [], one, other), other in class_of(start, [], one))

    def test_too_many(self):
        body = (("let", "x", I(1)),) * 30
        quiet = begun(program(body, (("x", "int"),), threads=("main",) * 4))
        # No two threads meet: each number of steps of each thread is one kind.
        self.assertEqual(len(kinds_of(quiet, [], 20)), 1771)
        self.assertEqual(len(kinds_of(quiet, [], 21)), 2024)
        with self.assertRaises(TooMany) as caught:
            kinds_of(quiet, [], 22)
        self.assertEqual(caught.exception.most, 2048)
        give = begun(program((("give", I(1)),) * 12, threads=("main", "main")))
        self.assertEqual(len(kinds_of(give, [], 11)), 2048)
        with self.assertRaises(TooMany):
            kinds_of(give, [], 12)
        self.assertEqual(len(kinds_of(begun(program((), threads=("main",))), [], 24)), 1)

    def test_refusals(self):
        start = begun(shared_ints(2))
        for call in (lambda m, i, w: met(m, i, w), lambda m, i, w: least_alike(m, i, w),
                     lambda m, i, w: are_alike(m, i, w, None), lambda m, i, w: kinds_of(m, i, -1)):
            with self.assertRaises(BadMoment) as caught:
                call(None, None, None)
            self.assertIsNone(caught.exception.part)
            for inputs in (None, [True], [2 ** 31]):
                with self.assertRaises(BadInputs):
                    call(start, inputs, [2])
        for call in (met, least_alike, lambda m, i, w: are_alike(m, i, w, [0, 0, 0, 0]),
                     lambda m, i, w: are_alike(m, i, [0], w)):
            for weaving in (None, [2], [True], [-1], 1):
                with self.assertRaises(BadNumber) as caught:
                    call(start, [], weaving)
                self.assertEqual(caught.exception.part, "weaving")
            with self.assertRaises(NotNow) as caught:
                call(start, [], [0, 0, 0, 0])
            self.assertEqual(caught.exception.why, "ended")
        with self.assertRaises(NotNow):
            are_alike(start, [], [0, 0, 0, 0], None)
        for many in (-1, 25, True, None, "3", 1.0):
            with self.assertRaises(BadNumber) as caught:
                kinds_of(start, [], many)
            self.assertEqual(caught.exception.part, "many")


if __name__ == "__main__":
    unittest.main()
