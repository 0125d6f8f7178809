"""Points 98 and 99: all runs searched."""

import unittest

from made import I, L, Maker, by_words, program, spill, tally
from firstwrong.errors import BadInputs, BadMoment, BadNumber, BadStory, NotNow, TooMany
from firstwrong.moments import Moment, begun
from firstwrong.pasts import Past, wrong_of
from firstwrong.searches import closed_shapes, is_closed, least_wrong, story_of, stuck_shapes
from firstwrong.shapes import shape_of
from firstwrong.steps import can_step, first_wrong, run, stepped
from firstwrong.stories import is_story
from firstwrong.trees import Program

P = ("to", "int")
S = ("shared", "s")


def turns_at(moment, values):
    """The turns that can be done, ascending, with the moments behind them: by trying all of them."""
    found = []
    for thread in range(len(moment.stacks)):
        for value in (None,) + tuple(values):
            try:
                after = stepped(moment, thread, (0,) * moment.asked + (() if value is None else (value,)))[0]
            except (NotNow, BadInputs):
                continue
            if (after.asked > moment.asked) == (value is not None):
                found.append(((thread, value), after))
    return found


def wrong_by_all_runs(start, values, many):
    """The least run that goes wrong, among all runs, one by one."""
    row = [((), start)]
    for _ in range(many):
        further = []
        for turns, moment in row:
            for turn, after in turns_at(moment, values):
                if after.wrong is not None:
                    return turns + (turn,)
                further.append((turns + (turn,), after))
        if len(further) > 3000:
            return "many"
        row = further
    return None


def crossed():
    """Two threads that each take both locks, in unlike sequences, for ever."""
    one, two = (((("while", I(1), (("take", a), ("take", b), ("store", S, I(number)), ("leave", b), ("leave", a))),))
                for a, b, number in (("k", "l", 1), ("l", "k", 2)))
    return Program(((("s", "int", 1),), ("k", "l"), (("a", (), (), (), "none", one), ("b", (), (), (), "none", two)), ("a", "b")))


def endless(*body, locals_=(("x", "int"), ("p", P)), threads=("main",), **more):
    """A program that does this body for ever."""
    return program((("while", I(1), body),), locals_, (("s", "int", 1),), ("k",), threads=threads, **more)


class LeastWrong(unittest.TestCase):
    def test_each_word(self):
        for word, rows in by_words().items():
            for made in rows:
                turns = least_wrong(begun(made), [], 40)
                inputs, course = story_of(turns)
                self.assertEqual(inputs, ())
                wrong = first_wrong(begun(made), [], course)
                self.assertEqual((wrong[0], wrong[2]), (len(turns) - 1, word))
                self.assertIsNone(least_wrong(begun(made), [], len(turns) - 1))

    def test_spill(self):
        start = begun(spill())
        values = list(range(8))
        # The least way wrong asks 0: unset, at the fifth step.
        self.assertEqual(least_wrong(start, values, 30), ((0, 0),) + ((0, None),) * 4)
        self.assertEqual(least_wrong(start, [5, 6], 30), ((0, 5),) + ((0, None),) * 16)
        self.assertEqual(least_wrong(start, [1, 4], 30), ((0, 1),) + ((0, None),) * 7)
        # With 4 alone, there is no input for the second "ask" that is let.
        self.assertIsNone(least_wrong(start, [4], 64))
        self.assertIsNone(least_wrong(start, [5], 16))
        self.assertIsNone(least_wrong(start, [10, 11], 64))

    def test_against_all_runs(self):
        found, none = 0, 0
        for seed in range(200, 245):
            made = Maker(seed).program()
            start = begun(made)
            right = wrong_by_all_runs(start, (0, 2), 9)
            if right == "many":
                continue
            self.assertEqual(least_wrong(start, (0, 2), 9), right)
            found += right is not None
            none += right is None
        self.assertGreater(found, 5)
        self.assertGreater(none, 5)

    def test_weavings_by_hand(self):
        # It goes wrong only if thread 1 goes between the two steps of thread 0.
        made = program((("store", S, I(1)), ("store", S, I(0))), (("x", "int"),), (("s", "int", 1),),
                       more=(("other", (), (("x", "int"),), (), "none", (("let", "x", ("share", I(1), ("less", I(1), ("at", S)))),)),), threads=("main", "other"))
        self.assertEqual(least_wrong(begun(made), [], 9), ((0, None), (1, None)))
        self.assertEqual(least_wrong(start=begun(made), values=(), many=2), ((0, None), (1, None)))
        self.assertIsNone(least_wrong(begun(made), [], 1))
        self.assertIsNone(least_wrong(begun(made), [], 0))

    def test_inputs_within_their_bounds(self):
        made = program((("ask", "x", -5, 5), ("ask", "y", 3, 9), ("give", ("share", I(1), ("less", L("y"), L("x"))))), (("x", "int"), ("y", "int")))
        self.assertEqual(least_wrong(begun(made), [-5, 0, 4, 5, 9], 9), ((0, 4), (0, 4), (0, None)))
        self.assertIsNone(least_wrong(begun(made), [-5, 0, 9], 9))
        self.assertEqual(story_of(((0, 4), (0, 4), (0, None))), ((4, 4), (0, 0, 0)))

    def test_a_start_with_something_wrong_or_asked(self):
        made = program((("leave", "k"),), locks=("k",))
        wrong = run(begun(made), [], [0])[0][-1]
        self.assertIsNone(least_wrong(wrong, [], 9))
        asked = run(begun(spill()), [3], [0])[0][-1]
        self.assertEqual(least_wrong(asked, [], 40), ((0, None),) * 13)

    def test_too_many(self):
        # A counter of each thread, none of which may be exchanged for another: shapes grow with the steps.
        made = program((("let", "x", I(0)), ("while", I(1), (("ask", "y", 0, 99), ("let", "x", ("sum", ("times", L("x"), I(8)), L("y")))))),
                       (("x", "int"), ("y", "int")))
        values = list(range(8))
        # Behind the ask number n there are 8 ** n shapes: 512 behind the third, 4096 behind the fourth, step 12.
        self.assertIsNone(least_wrong(begun(made), values, 11))
        with self.assertRaises(TooMany) as caught:
            least_wrong(begun(made), values, 12)
        self.assertEqual(caught.exception.most, 2048)
        self.assertIsNone(least_wrong(begun(made), values[:4], 17))
        self.assertRaises(TooMany, least_wrong, begun(made), values[:4], 18)

    def test_2048_shapes_and_2049(self):
        rows = tuple((word, "int") for word in "abcd")
        last = ("and", ("and", ("same", L("a"), I(7)), ("same", L("b"), I(7))), ("same", L("c"), I(7)))
        for high, fine in ((3, True), (4, False)):
            made = begun(program((("ask", "a", 0, 7), ("ask", "b", 0, 7), ("ask", "c", 0, 7),
                                  ("if", last, (("ask", "d", 0, high),), (("ask", "d", 0, 3),))), rows))
            # Of 512 ways 511 have four more each, the last one as many as high lets.
            if fine:
                self.assertIsNone(least_wrong(made, list(range(8)), 5))
            else:
                self.assertIsNone(least_wrong(made, list(range(8)), 4))
                self.assertRaises(TooMany, least_wrong, made, list(range(8)), 5)

    def test_too_many_at_the_steps_of_the_answer(self):
        words = "wxyz"
        asks = tuple(("ask", word, 0, 7) for word in words)

        def made(many):
            """Thread 0 asks four times, which leads to 4096 shapes; thread 1 goes wrong with its step number many + 1."""
            bad = ("bad", (), (), (), "none", (("if", I(1), (), ()),) * many + (("give", ("share", I(1), I(0))),))
            return begun(program(asks, tuple((word, "int") for word in words), more=(bad,), threads=("main", "bad")))
        values = list(range(8))
        # Wrong at the fourth step: what the fourth steps lead to is not counted. At the fifth it is.
        self.assertEqual(least_wrong(made(3), values, 64), ((1, None),) * 4)
        self.assertRaises(TooMany, least_wrong, made(4), values, 64)
        self.assertEqual(least_wrong(made(4), values[:5], 64), ((1, None),) * 5)

    def test_errors(self):
        made = spill()
        start = begun(made)
        old = Moment(made, (2 ** 30,) + (0,) * 31, {}, (), start.stacks, 0, (), None)
        for call in (lambda *some: least_wrong(*some, None), closed_shapes, lambda *some: is_closed(*some, None), stuck_shapes):
            for thing in (None, made):
                with self.assertRaises(BadMoment) as caught:
                    call(thing, None)
                self.assertIsNone(caught.exception.part)
            with self.assertRaises(BadMoment) as caught:
                call(old, None)
            self.assertEqual(caught.exception.part, "young")
            for values in (None, 5, [True], [2 ** 31], [1, 0], [1, 1], list(range(9)), "01", [None]):
                self.assertRaises(BadInputs, call, start, values)
        for many in (-1, 65, True, None):
            with self.assertRaises(BadNumber) as caught:
                least_wrong(start, [], many)
            self.assertEqual(caught.exception.part, "many")
        self.assertIsNone(least_wrong(start, list(range(90, 98)), 64))

    def test_nothing_is_changed(self):
        start, values = begun(spill()), [1, 4]
        least_wrong(start, values, 9), closed_shapes(start, values)
        self.assertEqual((start, values), (begun(spill()), [1, 4]))


class Stories(unittest.TestCase):
    def test_told(self):
        self.assertEqual(story_of([(0, 5), (3, None), (1, -(2 ** 31))]), ((5, -(2 ** 31)), (0, 3, 1)))
        self.assertEqual(story_of(()), ((), ()))
        self.assertEqual(story_of(turns=[(1, None)] * 2048), ((), (1,) * 2048))

    def test_errors(self):
        for turns in (None, 5, "ab", [0], [[0, None]], [(0,)], [(0, None, None)], [(4, None)], [(-1, None)], [(True, None)], [(0, True)], [(0, 2 ** 31)],
                      [(0, "1")], [(None, None)], [(1, None)] * 2049):
            self.assertRaises(BadStory, story_of, turns)

    def test_leads_to_the_wrong(self):
        for values in ([0, 5], [5, 6], [1, 4]):
            turns = least_wrong(begun(spill()), values, 40)
            story = story_of(turns)
            self.assertTrue(is_story(spill(), story))
            past = Past(begun(spill()), story, 4)
            self.assertEqual((past.length, wrong_of(past)[0]), (len(turns), len(turns) - 1))


def shapes_by_all(start, values, most=3000):
    """All shapes, in the sequence in which they come first; the number of its step if one goes wrong."""
    found, row, steps = [shape_of(start)], [start], 0
    while row:
        further = []
        steps += 1
        for moment in row:
            for _, after in turns_at(moment, values):
                if after.wrong is not None:
                    return steps
                if shape_of(after) not in found:
                    found.append(shape_of(after))
                    further.append(after)
        if len(found) > most:
            return "many"
        row = further
    return tuple(found)


class Closed(unittest.TestCase):
    def safe(self):
        """Programs that go on for ever, or end, without a wrong: with values."""
        return ((endless(("make", "p", "int", I(1)), ("store", L("p"), I(1)), ("away", L("p"))), []),
                (endless(("ask", "x", 0, 3), ("give", L("x")), ("store", S, L("x"))), [0, 2, 5]),
                (endless(("call", "x", "f", ()), more=(("f", (), (("y", "int"),), (("m", "int", 1),), "int", (("return", I(3)),)),)), []),
                (endless(("take", "k"), ("store", S, I(1)), ("leave", "k"), threads=("main", "main")), []), (crossed(), []), (tally(), []),
                (program(()), []), (program((("ask", "x", 0, 1), ("if", L("x"), (("while", I(1), ()),), ())), (("x", "int"),)), [0, 1]))

    def test_against_all_moments(self):
        for made, values in self.safe():
            start = begun(made)
            told = closed_shapes(start, values)
            right = shapes_by_all(start, values)
            self.assertEqual(told, right)
            self.assertTrue(is_closed(start, values, told))
            self.assertIsNone(least_wrong(start, values, 12))

    def test_random_programs(self):
        met = set()
        for seed in range(300, 345):
            made = Maker(seed).program()
            start = begun(made)
            right = shapes_by_all(start, (0, 2), 250)
            if right == "many":
                continue
            told = closed_shapes(start, (0, 2))
            goes_wrong = isinstance(right, int)
            met.add(goes_wrong)
            # The HEART: exactly one of both.
            if goes_wrong:
                self.assertIsNone(told)
                self.assertEqual(len(least_wrong(start, (0, 2), min(64, right)) or ()), right if right <= 64 else 0)
                self.assertIsNone(stuck_shapes(start, (0, 2)))
            else:
                self.assertEqual(told, right)
                self.assertTrue(is_closed(start, (0, 2), told))
        self.assertEqual(met, {True, False})

    def test_sequence_by_hand(self):
        made = program((("ask", "x", 0, 1), ("take", "k")), (("x", "int"),), (), ("k",), threads=("main", "main"))
        told = closed_shapes(begun(made), [0, 1])
        self.assertEqual([shape.stacks[0][0][2] + shape.stacks[1][0][2] for shape in told[:5]], [(None, None), (0, None), (1, None), (None, 0), (None, 1)])
        self.assertTrue(all(shape_of(shape) == shape and shape.asked == 0 for shape in told))

    def test_near_things(self):
        for made, values in self.safe():
            start = begun(made)
            told = closed_shapes(start, values)
            self.assertTrue(is_closed(start, values, told[::-1]))
            self.assertFalse(is_closed(start, values, list(told)))
            self.assertFalse(is_closed(start, values, told + told[:1]))
            for place in range(0, len(told), 1 + len(told) // 12):
                self.assertFalse(is_closed(start, values, told[:place] + told[place + 1:]), place)
            for thing in (None, 5, (), (None,), told + (None,), told[:-1] + (5,), told + (begun(spill()),)):
                self.assertFalse(is_closed(start, values, thing))
            # Moments that are no shapes, or with something wrong.
            last = told[-1]
            given = Moment(made, last.lives, last.memory, last.held, last.stacks, 0, (1,), None)
            self.assertFalse(is_closed(start, values, told[:-1] + (given,)))
            self.assertFalse(is_closed(start, values, told + (given,)))
            wrong = Moment(made, last.lives, last.memory, last.held, last.stacks, 0, (), (0, "null"))
            self.assertFalse(is_closed(start, values, told + (wrong,)))

    def test_more_shapes_than_come(self):
        # Two endless loops: what is closed for both starts together is closed for each.
        made = endless(("give", L("x")))
        one = begun(made)

        def at(value):
            frame = one.stacks[0][0]
            return Moment(made, one.lives, one.memory, one.held, (((frame[0], frame[1], (value, None), (), ""),),), 0, (), None)
        both = closed_shapes(at(1), []) + closed_shapes(at(2), [])
        self.assertTrue(is_closed(at(1), [], both))
        self.assertTrue(is_closed(at(2), [], both))
        self.assertFalse(is_closed(at(3), [], both))
        # With one value more what was closed is so no longer.
        made = endless(("ask", "x", 0, 9))
        told = closed_shapes(begun(made), [1])
        self.assertTrue(is_closed(start=begun(made), values=[1], thing=told))
        self.assertFalse(is_closed(begun(made), [1, 2], told))
        self.assertTrue(is_closed(begun(made), [1, 20], told))

    def test_wrong_ones(self):
        for rows in by_words().values():
            self.assertIsNone(closed_shapes(begun(rows[0]), []))
            self.assertIsNone(stuck_shapes(begun(rows[0]), []))
        wrong = run(begun(program((("leave", "k"),), locks=("k",))), [], [0])[0][-1]
        self.assertIsNone(closed_shapes(wrong, []))
        self.assertFalse(is_closed(wrong, [], (shape_of(wrong),)))
        # Its wrong step is the only way on: no tuple is closed.
        ahead = begun(wrong.program)
        self.assertFalse(is_closed(ahead, [], (shape_of(ahead),)))

    def count_up(self, most, wrong=False, more=()):
        """A counter that goes up to a number, and then does more, ends or goes wrong: two shapes for each number."""
        body = (("let", "x", I(0)), ("while", ("below", L("x"), I(most)), (("let", "x", ("sum", L("x"), I(1))),)))
        return begun(program(body + more + ((("give", ("share", I(1), I(0))),) if wrong else ()), (("x", "int"),)))

    def test_4096_shapes(self):
        # Behind the beginning: "while" and "let" for each number below most, "while" for most, its end, and no frame.
        self.assertEqual(len(closed_shapes(self.count_up(10), [])), 1 + 2 * 10 + 1 + 1 + 1)
        self.assertEqual(len(closed_shapes(self.count_up(2046), [])), 4096)
        # One shape more.
        with self.assertRaises(TooMany) as caught:
            closed_shapes(self.count_up(2046, more=(("give", I(1)),)), [])
        self.assertEqual(caught.exception.most, 4096)
        self.assertRaises(TooMany, stuck_shapes, self.count_up(2047), [])
        # The wrong one counts ahead of it: with 4096 ahead it is told, with more it is not.
        self.assertIsNone(closed_shapes(self.count_up(2046, True), []))
        self.assertRaises(TooMany, closed_shapes, self.count_up(2047, True), [])


class Stuck(unittest.TestCase):
    def test_locks(self):
        told = stuck_shapes(begun(crossed()), [])
        # Each holds its first lock and wants the other one; whatever the shared cell holds.
        self.assertEqual({shape.held for shape in told}, {(0, 1)})
        self.assertTrue(all(not can_step(shape, thread) for shape in told for thread in range(2)))

    def test_asks(self):
        made = program((("ask", "x", 0, 3), ("ask", "x", 5, 9)), (("x", "int"),))
        start = begun(made)
        self.assertEqual(stuck_shapes(start, []), (shape_of(start),))
        told = stuck_shapes(start, [0, 3])
        self.assertEqual([shape.stacks[0][0][2] for shape in told], [(0,), (3,)])
        self.assertEqual(stuck_shapes(start=start, values=[3, 9]), ())
        self.assertEqual(stuck_shapes(begun(tally()), []), ())
        self.assertEqual(stuck_shapes(begun(program(())), []), ())

    def test_against_closed_shapes(self):
        for made, values in Closed().safe():
            start = begun(made)
            told = tuple(shape for shape in closed_shapes(start, values)
                         if any(stack != () for stack in shape.stacks) and turns_at(shape, values) == [])
            self.assertEqual(stuck_shapes(start, values), told)


if __name__ == "__main__":
    unittest.main()
