"""Points 30 and 31: moments judged, how a run begins."""

import unittest

from made import I, L, programs, runs
from firstwrong.errors import BadMoment, BadTree
from firstwrong.moments import Moment, begun
from firstwrong.steps import run
from firstwrong.trees import Program

P = ("to", "int")
BODY = (("let", "x", I(1)), ("return",))
FUNCTION = (("return", L("c")),)
TREE = ((("s", "int", 2), ("t", P, 1)), ("k", "l"),
        (("f", (), (("x", "int"), ("p", P)), (("m", "byte", 2),), "none", BODY),
         ("g", (("c", P),), (("y", "byte"),), (("m", "byte", 2), ("n", "int", 1)), P, FUNCTION)), ("f", "f"))
NAMES = ("lives", "memory", "held", "stacks", "asked", "given", "wrong")


def parts():
    """The parts of a moment that is let, lists where they will do."""
    lives = [1, 1, 1, 5, 3, 3, 2, 7] + [0] * 24
    memory = {0: ("shared", "int", (4, None)), 1: ("shared", P, ((0, 1, 1),)), 2: ("local", "byte", (None, 255)),
              3: ("local", "byte", (1, 2)), 4: ("local", "byte", (0, 0)), 5: ("local", "int", (-1,)),
              7: ("made", P, (None,) * 16)}
    stacks = (((0, BODY, (5, (31, 2 ** 30, 16)), ((2, 1),), ""), (1, FUNCTION, ((7, 4, 0), None), ((3, 3), (5, 2)), "p")),
              ((0, BODY[1:], (None, None), ((4, 2),), ""),))
    return {"lives": lives, "memory": memory, "held": (None, 1), "stacks": stacks, "asked": 3, "given": (1, -1),
            "wrong": (1, "gone")}


def frame(stacks, thread, depth, number, value):
    """The stacks with one part of a frame exchanged."""
    found = [[list(row) for row in stack] for stack in stacks]
    found[thread][depth][number] = value
    return tuple(tuple(tuple(row) for row in stack) for stack in found)


class Moments(unittest.TestCase):
    program = Program(TREE)

    def make(self, **changes):
        return Moment(self.program, **{**parts(), **changes})

    def bad(self, part, **changes):
        with self.assertRaises(BadMoment) as caught:
            self.make(**changes)
        self.assertEqual(caught.exception.part, part, changes)

    def test_attributes(self):
        made = self.make()
        given = parts()
        for name in NAMES:
            wanted = tuple(given[name]) if name == "lives" else given[name]
            self.assertEqual(getattr(made, name), wanted)
        self.assertIsInstance(made.lives, tuple)
        self.assertIs(made.program, self.program)
        turned = {slot: given["memory"][slot] for slot in reversed(given["memory"])}
        self.assertEqual(list(self.make(memory=turned).memory), [0, 1, 2, 3, 4, 5, 7])
        self.assertEqual(self.make(lives=tuple(given["lives"]), memory=turned), made)

    def test_nothing_handed_in_is_kept(self):
        given = parts()
        made = Moment(self.program, **given)
        given["lives"][0] = 99
        given["memory"][9] = "x"
        del given["memory"][0]
        self.assertEqual(made, self.make())
        self.assertEqual(given["lives"][0], 99)
        self.assertEqual(list(given["memory"]), [1, 2, 3, 4, 5, 7, 9])

    def test_equality(self):
        made = self.make()
        self.assertNotEqual(made, None)
        self.assertNotEqual(made, parts())
        others = {"lives": [1, 1, 1, 5, 3, 3, 4, 7] + [0] * 24, "held": (0, 1), "asked": 4, "given": (1,), "wrong": None,
                  "memory": {**parts()["memory"], 0: ("shared", "int", (4, 4))},
                  "stacks": frame(parts()["stacks"], 0, 1, 4, "")}
        for name, value in others.items():
            self.assertNotEqual(self.make(**{name: value}), made)
            self.assertEqual(self.make(**{name: value}), self.make(**{name: value}))
        other = Program(TREE[:3] + (("f", "f"),))
        self.assertEqual(Moment(other, **parts()), made)
        other = Program(TREE[:1] + (("k", "m"),) + TREE[2:])
        self.assertNotEqual(Moment(other, **parts()), made)

    def test_no_program(self):
        for thing in (None, TREE, 1):
            with self.assertRaises(BadTree) as caught:
                Moment(thing, None, None, None, None, None, None, 1)
            self.assertIsNone(caught.exception.at)
            with self.assertRaises(BadTree):
                begun(thing)

    def test_lives(self):
        good = parts()["lives"]
        for thing in (None, 1, "x" * 32, {}, good[:31], good + [0], [True] + good[1:], good[:31] + [-1],
                      good[:31] + [2 ** 31 - 1], good[:31] + [0.0], good[:31] + [None]):
            self.bad("lives", lives=thing)
        self.make(lives=good[:31] + [2 ** 31 - 2])
        memory = {**parts()["memory"], 31: ("made", "int", (1,))}
        self.make(lives=good[:31] + [2 ** 31 - 3], memory=memory)

    def test_memory(self):
        good = parts()["memory"]

        def but(slot, block):
            return {**good, slot: block}

        lacking = {slot: good[slot] for slot in good if slot != 7}
        for thing in (None, [], list(good.items()), (), {}, lacking, but(8, ("made", "int", (1,))),
                      but(6, ("made", "int", (1,))), {**lacking, True: good[7]}, {**lacking, 7.0: good[7]},
                      {**lacking, "7": good[7]}, but(7, None), but(7, ["made", "int", (1,)]), but(7, ("made", "int")),
                      but(7, ("made", "int", ())), but(7, ("made", "int", (1,) * 17)), but(7, ("made", "int", [1])),
                      but(7, ("made", "int", (True,))), but(7, ("made", "int", (2 ** 31,))), but(7, ("made", "byte", (256,))),
                      but(7, ("made", P, (0,))), but(7, ("made", P, ([0, 0, 0],))), but(7, ("made", ("to", P), (None,))),
                      but(7, ("other", "int", (1,))), but(7, (1, "int", (1,))), but(7, ("shared", "int", (1, 1))),
                      but(0, ("made", "int", (4, None))), but(0, ("shared", "byte", (4, None))),
                      but(0, ("shared", "int", (4,))), but(1, ("shared", "int", (4,)))):
            self.bad("memory", memory=thing)
        lives = parts()["lives"]
        self.bad("memory", lives=[3] + lives[1:])
        self.bad("memory", lives=[2] + lives[1:], memory={slot: good[slot] for slot in good if slot != 0})
        self.make(memory=but(7, ("made", "int", (1,) * 16)))
        self.make(memory=but(7, ("made", "int", (1,))))

    def test_held_asked_given_wrong(self):
        for thing in (None, [], (None,), (None, None, None), [None, None], (None, 2), (None, -1), (None, True), (0, "x"), 1):
            self.bad("held", held=thing)
        for thing in (None, -1, True, False, 1.0, "1"):
            self.bad("asked", asked=thing)
        self.make(asked=10 ** 20)
        for thing in (None, [], [1], (True,), (2 ** 31,), (-(2 ** 31) - 1,), (None,), (1.0,), 1):
            self.bad("given", given=thing)
        for thing in (0, (), [0, "gone"], (0, "gone", 1), (2, "gone"), (True, "gone"), (0, "other"), (0, None), "gone",
                      (None, "gone"), (0, ("gone",))):
            self.bad("wrong", wrong=thing)
        words = ("unset", "null", "gone", "beyond", "unlike", "kind", "great", "share", "away", "deep", "lock")
        for word in words:
            self.make(wrong=(0, word))

    def test_stacks(self):
        good = parts()["stacks"]
        for thing in (None, [], list(good), good[:1], good + ((),), ([], good[1]), (None, good[1]), (good[0], (1,)),
                      (good[0], (good[1][0][:4],)), (good[0], (list(good[1][0]),)), (good[0], (good[1][0] + (1,),))):
            self.bad("stacks", stacks=thing)
        changes = ((0, 0, 0, True), (0, 0, 0, 2), (0, 0, 0, -1), (0, 0, 0, None), (0, 0, 1, FUNCTION), (0, 0, 1, list(BODY)),
                   (0, 0, 1, BODY[:1]), (0, 0, 1, None), (0, 0, 1, (("let", "x", ("int", True)), ("return",))),
                   (0, 0, 1, ()), (0, 0, 2, (5,)), (0, 0, 2, [5, None]), (0, 0, 2, (True, None)), (0, 0, 2, (2 ** 31, None)),
                   (0, 0, 2, (5, 5)), (0, 0, 2, (5, (32, 1, 0))), (0, 0, 2, (5, [0, 0, 0])), (0, 1, 2, (None, 256)),
                   (0, 0, 3, ()), (0, 0, 3, [(2, 1)]), (0, 0, 3, ([2, 1],)), (0, 0, 3, ((2, True),)), (0, 0, 3, ((2, 2),)),
                   (0, 0, 3, ((3, 3),)), (0, 0, 3, ((7, 4),)), (0, 0, 3, ((0, 1),)), (0, 0, 3, ((6, 1),)), (0, 0, 3, ((33, 1),)),
                   (0, 0, 3, ((2, 1, 0),)), (0, 1, 3, ((5, 2), (3, 3))), (0, 1, 3, ((3, 3), (3, 3))), (0, 0, 4, "x"),
                   (0, 0, 4, None), (0, 1, 4, "x"), (0, 1, 4, "z"), (0, 1, 4, "y"), (0, 1, 4, "m"), (0, 1, 4, ["p"]))
        for thread, depth, number, value in changes:
            self.bad("stacks", stacks=frame(good, thread, depth, number, value))
        for thread, depth, number, value in ((0, 1, 4, ""), (0, 0, 1, BODY[1:]), (0, 1, 2, (None, 255))):
            self.make(stacks=frame(good, thread, depth, number, value))
        # A local block that no frame names; the end of a thread.
        self.bad("stacks", stacks=(good[0], ()))
        memory = {slot: block for slot, block in parts()["memory"].items() if slot != 4}
        lives = parts()["lives"]
        lives[4] = 4
        self.make(stacks=(good[0], ()), memory=memory, lives=lives)

    def test_frames(self):
        made = Program(((), (), (("f", (), (), (), "none", (("call", "", "f", ()),)),), ("f",)))
        body = made.functions[0][5]
        for many in (12, 13):
            stack = ((0, body, (), (), ""),) * many
            if many == 12:
                self.assertEqual(Moment(made, [0] * 32, {}, (), (stack,), 0, (), None).stacks, (stack,))
            else:
                with self.assertRaises(BadMoment) as caught:
                    Moment(made, [0] * 32, {}, (), (stack,), 0, (), None)
                self.assertEqual(caught.exception.part, "stacks")

    def test_sequence_of_errors(self):
        order = [name for name in NAMES]
        changes = {"lives": None, "memory": None, "held": None, "stacks": None, "asked": None, "given": None, "wrong": 0}
        for number, name in enumerate(order):
            self.bad(name, **{other: changes[other] for other in order[number:]})

    def test_begun(self):
        made = begun(self.program)
        stack = lambda slot: ((0, BODY, (None, None), ((slot, 1),), ""),)
        self.assertEqual(made, Moment(self.program, [1] * 4 + [0] * 28, {
            0: ("shared", "int", (0, 0)), 1: ("shared", P, ((0, 0, 0),)), 2: ("local", "byte", (None, None)),
            3: ("local", "byte", (None, None))}, (None, None), (stack(2), stack(3)), 0, (), None))
        self.assertEqual(begun(program=Program(((), (), (), ()))), Moment(Program(((), (), (), ())), [0] * 32, {}, (), (),
                                                                          0, (), None))
        for made in programs(30):
            first = begun(made)
            self.assertEqual(Moment(made, first.lives, first.memory, first.held, first.stacks, first.asked, first.given,
                                    first.wrong), first)

    def test_moments_of_runs_are_let(self):
        for made, inputs, weaving in runs(60):
            for moment in run(begun(made), inputs, weaving)[0]:
                self.assertEqual(Moment(made, list(moment.lives), moment.memory, moment.held, moment.stacks, moment.asked,
                                        moment.given, moment.wrong), moment)
                self.assertEqual(list(moment.memory), sorted(moment.memory))


if __name__ == "__main__":
    unittest.main()
