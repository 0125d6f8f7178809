"""Point 98, its first part: shapes of moments, and young ones."""

import random
import unittest

from made import I, L, all_runs, program, runs
from firstwrong.errors import BadInputs, BadMoment, NotNow
from firstwrong.moments import Moment, begun
from firstwrong.shapes import is_young, shape_of
from firstwrong.steps import can_step, run, stepped

P = ("to", "int")


def moment_with(pointer, lives=(), memory=None, cell=(0, 0, 0), **more):
    """A moment with a pointer in a local and one in a shared cell; slot 1 has a made block of the third life."""
    made = program((("give", I(1)),), (("p", P),), (("s", P, 1),), ("k",), (("m", "int", 1),))
    rows = [1, 5, 1, 4] + [0] * 28
    for slot, number in lives:
        rows[slot] = number
    blocks = {0: ("shared", P, (cell,)), 1: ("made", "int", (7, None)), 2: ("local", "int", (None,))}
    blocks.update(memory or {})
    parts = {"held": (0,), "stacks": (((0, made.functions[0][5], (pointer,), ((2, 1),), ""),),), "asked": 3,
             "given": (1, 2), "wrong": None}
    parts.update(more)
    return Moment(made, rows, blocks, **parts)


class ShapeOf(unittest.TestCase):
    def test_pointers(self):
        gone = (31, 2 ** 30, 0)
        for pointer, told in (((0, 0, 0), (0, 0, 0)), ((0, 1, 0), (0, 1, 0)), ((1, 3, 2), (1, 1, 2)), ((1, 1, 1), gone),
                              ((1, 2, 0), gone), ((3, 2, 5), gone), ((2, 1, 16), (2, 1, 16)), (None, None), (gone, gone)):
            shape = shape_of(moment_with(pointer, cell=pointer))
            self.assertEqual(shape.stacks[0][0][2], (told,))
            self.assertEqual(shape.memory[0], ("shared", P, (told,)))

    def test_all_else(self):
        moment = moment_with((0, 0, 0), wrong=(0, "lock"))
        shape = shape_of(moment)
        self.assertEqual(shape.lives, (1, 1, 1) + (0,) * 29)
        self.assertEqual((shape.asked, shape.given, shape.wrong, shape.held), (0, (), (0, "lock"), (0,)))
        self.assertEqual(shape.memory[1], moment.memory[1])
        self.assertEqual(shape.stacks[0][0][:2], moment.stacks[0][0][:2])
        self.assertEqual(shape.program, moment.program)
        Moment(shape.program, shape.lives, shape.memory, shape.held, shape.stacks, 0, (), shape.wrong)

    def test_names(self):
        made = program((("call", "", "main", ()),), (), blocks=(("m", "int", 1),))
        lives = [0, 0, 7] + [0] * 29
        moment = Moment(made, lives, {2: ("local", "int", (3,))}, (), (((0, (), (), ((2, 4),), ""),),), 0, (), None)
        self.assertEqual(shape_of(moment).stacks[0][0][3], ((2, 1),))

    def test_shape_of_a_shape(self):
        for made, inputs, weaving in runs(20):
            for moment in run(begun(made), inputs, weaving)[0]:
                shape = shape_of(moment)
                self.assertEqual(shape_of(shape), shape)
                Moment(made, shape.lives, shape.memory, shape.held, shape.stacks, 0, (), shape.wrong)

    def test_wrong_things(self):
        for thing in (None, 5, begun(program(())).program):
            for call in (shape_of, is_young):
                with self.assertRaises(BadMoment) as caught:
                    call(thing)
                self.assertIsNone(caught.exception.part)

    def test_nothing_is_changed(self):
        moment, other = moment_with((1, 1, 0)), moment_with((1, 1, 0))
        shape_of(moment), is_young(moment)
        self.assertEqual(moment, other)


class IsYoung(unittest.TestCase):
    def test_lives(self):
        null = (0, 0, 0)
        self.assertTrue(is_young(moment_with(null)))
        self.assertTrue(is_young(moment_with(null, [(5, 2 ** 30 - 2)])))
        self.assertTrue(is_young(moment_with(null, [(5, 2 ** 30 - 1)], {5: ("made", "int", (1,))})))
        self.assertFalse(is_young(moment_with(null, [(5, 2 ** 30)])))

    def test_pointers(self):
        # Slot 1 has its third block, slot 3 had two, slot 4 none.
        for pointer, told in (((1, 3, 0), True), ((1, 2, 0), True), ((1, 4, 0), False), ((3, 2, 0), True), ((3, 3, 0), False),
                              ((4, 1, 0), False), ((0, 1, 16), True), ((0, 2, 0), False), ((31, 2 ** 30, 0), False),
                              (None, True)):
            self.assertEqual(is_young(moment_with(pointer)), told, pointer)
            self.assertEqual(is_young(moment_with((0, 0, 0), cell=pointer)), told, pointer)
            block = {1: ("made", P, (None, pointer))}
            self.assertEqual(is_young(moment_with((0, 0, 0), memory=block)), told, pointer)

    def test_runs_stay_young(self):
        for made, inputs, weaving in runs(10):
            self.assertTrue(all(is_young(moment) for moment in run(begun(made), inputs, weaving)[0]))


class Heart(unittest.TestCase):
    """A step from a moment and one from its shape lead to one shape."""

    def test_steps(self):
        for made, inputs, weaving in all_runs(40):
            for moment in run(begun(made), inputs, weaving)[0]:
                shape = shape_of(moment)
                for thread in range(len(made.threads)):
                    self.assertEqual(can_step(moment, thread), can_step(shape, thread))
                    following = inputs[moment.asked:moment.asked + 1]
                    try:
                        after = stepped(moment, thread, inputs)[0]
                    except (NotNow, BadInputs) as error:
                        self.assertRaises(type(error), stepped, shape, thread, following)
                        continue
                    put = stepped(shape, thread, following)[0]
                    self.assertEqual(shape_of(put), shape_of(after))
                    self.assertEqual(put.wrong, after.wrong)
                    self.assertTrue(is_young(after))


if __name__ == "__main__":
    unittest.main()
