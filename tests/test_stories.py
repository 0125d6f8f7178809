"""Point 90: edits, stories, and entries that are idle."""

import unittest

from made import I, L, program, runs
from firstwrong.errors import BadEdit, BadInputs, BadMoment, BadStory, BadTree, NotNow, WrongError
from firstwrong.moments import Moment, begun
from firstwrong.steps import run, stepped
from firstwrong.stories import edited, is_edit, is_idle, is_story

P = ("to", "int")


def setting():
    """Thread 0 is in f, thread 1 at its first statement, thread 2 has ended; slot 4 has a made block of bytes."""
    made = program((("take", "k"), ("make", "q", "byte", I(2)), ("call", "x", "f", (I(5),)), ("ask", "x", 0, 3), ("ask", "x", 0, 3)),
                   (("x", "int"), ("p", P), ("q", ("to", "byte"))), (("s", "int", 2), ("t", P, 1)), ("k",), (),
                   more=(("f", (("a", "int"),), (("b", "byte"),), (("n", "int", 1),), "int", (("return", L("a")),)), ("g", (), (), (), "none", ())),
                   threads=("main", "main", "g"))
    return made, run(begun(made), [], [0, 0, 0, 2])[0][-1]


class Edits(unittest.TestCase):
    def test_what_is_one(self):
        made, _ = setting()
        for thing in (("local", 0, "x", 5), ("local", 2, "abcdefghijkl", None), ("local", 1, "x", (0, 0, 0)), ("local", 1, "x", (31, 2 ** 30, 16)),
                      ("local", 1, "x", -(2 ** 31)), ("local", 1, "x", 2 ** 31 - 1), ("cell", 0, 1, 0, 5), ("cell", 31, 2 ** 30, 15, None),
                      ("cell", 0, 1, 0, (3, 1, 0))):
            self.assertTrue(is_edit(made, thing), thing)
        self.assertTrue(is_edit(program=made, thing=("local", 0, "x", 5)))

    def test_what_is_none(self):
        made, _ = setting()
        for thing in (None, 5, (), "local", ["local", 0, "x", 5], ("local", 3, "x", 5), ("local", -1, "x", 5), ("local", True, "x", 5),
                      ("local", 0, "X", 5), ("local", 0, "", 5), ("local", 0, "abcdefghijklm", 5), ("local", 0, 1, 5), ("local", 0, "x"),
                      ("local", 0, "x", 5, 5), ("local", 0, "x", True), ("local", 0, "x", 2 ** 31), ("local", 0, "x", -(2 ** 31) - 1),
                      ("local", 0, "x", "5"), ("local", 0, "x", (0, 0)), ("local", 0, "x", (0, 0, 1)), ("local", 0, "x", (32, 1, 0)),
                      ("local", 0, "x", (0, 1, 17)), ("local", 0, "x", (0, 2 ** 30 + 1, 0)), ("local", 0, "x", [0, 0, 0]),
                      ("local", 0, "x", (False, 0, 0)), ("cell", 32, 1, 0, 5), ("cell", -1, 1, 0, 5), ("cell", 0, 0, 0, 5),
                      ("cell", 0, 2 ** 30 + 1, 0, 5), ("cell", 0, 1, 16, 5), ("cell", 0, 1, -1, 5), ("cell", 0, 1, 0), ("cell", 0, True, 0, 5),
                      ("cell", 0, 1, 0, True), ("edit", 0, 1, 0, 5), ("free", 0, "x", 5), (None, 0, "x", 5)):
            self.assertFalse(is_edit(made, thing), thing)
        for thing in (None, 5):
            for call in (is_edit, is_story):
                with self.assertRaises(BadTree) as caught:
                    call(thing, 5)
                self.assertIsNone(caught.exception.at)

    def test_each_kind_of_place(self):
        made, moment = setting()
        for edit, look in ((("local", 0, "a", 7), lambda after: after.stacks[0][1][2] == (7, None)),
                           (("local", 0, "b", 255), lambda after: after.stacks[0][1][2] == (5, 255)),
                           (("local", 0, "a", None), lambda after: after.stacks[0][1][2] == (None, None)),
                           (("local", 1, "p", (0, 1, 16)), lambda after: after.stacks[1][0][2] == (None, (0, 1, 16), None)),
                           (("local", 1, "q", (0, 0, 0)), lambda after: after.stacks[1][0][2] == (None, None, (0, 0, 0))),
                           (("cell", 0, 1, 1, -5), lambda after: after.memory[0] == ("shared", "int", (0, -5))),
                           (("cell", 1, 1, 0, (9, 9, 9)), lambda after: after.memory[1] == ("shared", P, ((9, 9, 9),))),
                           (("cell", 1, 1, 0, None), lambda after: after.memory[1] == ("shared", P, (None,))),
                           (("cell", 2, 1, 1, 255), lambda after: after.memory[2] == ("made", "byte", (None, 255))),
                           (("cell", 3, 1, 0, 2 ** 31 - 1), lambda after: after.memory[3] == ("local", "int", (2 ** 31 - 1,)))):
            after = edited(moment, edit)
            self.assertTrue(look(after), edit)
            self.assertFalse(is_idle(moment, [], edit))
            back = {"lives": after.lives, "held": after.held, "asked": after.asked, "given": after.given, "wrong": after.wrong}
            self.assertEqual(back, {name: getattr(moment, name) for name in back})
            if edit[0] == "local":
                self.assertEqual(after.memory, moment.memory)
                self.assertEqual([stack for thread, stack in enumerate(after.stacks) if thread != edit[1]],
                                 [stack for thread, stack in enumerate(moment.stacks) if thread != edit[1]])
            else:
                self.assertEqual(after.stacks, moment.stacks)
                self.assertEqual({**after.memory, edit[1]: 0}, {**moment.memory, edit[1]: 0})
            # It is a moment, judged anew.
            Moment(made, after.lives, after.memory, after.held, after.stacks, after.asked, after.given, after.wrong)
        self.assertEqual(moment, setting()[1])

    def test_the_others_stay(self):
        made = program((("give", I(1)),), tuple((word, "int") for word in "abcd"), (("s", "int", 4),))
        start = begun(made)
        start = Moment(made, start.lives, {0: ("shared", "int", (1, 2, 3, 4))}, (), (((0, made.functions[0][5], (5, 6, 7, 8), (), ""),),), 0, (), None)
        for place in range(4):
            cells = edited(start, ("cell", 0, 1, place, 9)).memory[0][2]
            self.assertEqual(cells, (1, 2, 3, 4)[:place] + (9,) + (1, 2, 3, 4)[place + 1:])
            values = edited(start, ("local", 0, "abcd"[place], 9)).stacks[0][0][2]
            self.assertEqual(values, (5, 6, 7, 8)[:place] + (9,) + (5, 6, 7, 8)[place + 1:])

    def test_not_now(self):
        made, moment = setting()
        # x is a local of the frame below; thread 2 has ended; sorts do not fit; cells are not there.
        for edit in (("local", 0, "x", 5), ("local", 0, "n", 5), ("local", 2, "x", 5), ("local", 1, "a", 5), ("local", 0, "a", (0, 0, 0)),
                     ("local", 0, "b", 256), ("local", 0, "b", -1), ("local", 1, "p", 5), ("cell", 0, 1, 2, 5), ("cell", 0, 2, 0, 5),
                     ("cell", 9, 1, 0, 5), ("cell", 0, 1, 0, (0, 0, 0)), ("cell", 1, 1, 0, 0), ("cell", 2, 1, 0, 256), ("cell", 2, 1, 2, 1),
                     ("cell", 2, 1, 0, (0, 0, 0))):
            with self.assertRaises(NotNow) as caught:
                edited(moment, edit)
            self.assertEqual(caught.exception.why, "edit", edit)
            self.assertTrue(is_idle(moment, [], edit))
        wrong = Moment(made, moment.lives, moment.memory, moment.held, moment.stacks, 0, (), (1, "null"))
        for edit in (("local", 0, "a", 7), ("local", 0, "x", 5), ("cell", 0, 1, 1, -5)):
            with self.assertRaises(NotNow) as caught:
                edited(wrong, edit)
            self.assertEqual(caught.exception.why, "wrong")
            self.assertTrue(is_idle(wrong, [], edit))

    def test_errors(self):
        made, moment = setting()
        for thing in (None, made, 5):
            with self.assertRaises(BadMoment) as caught:
                edited(thing, None)
            self.assertIsNone(caught.exception.part)
        wrong = Moment(made, moment.lives, moment.memory, moment.held, moment.stacks, 0, (), (1, "null"))
        for edit in (None, 0, ("local", 3, "x", 5), ["local", 0, "a", 7], ("cell", 0, 1, 16, 5)):
            self.assertRaises(BadEdit, edited, moment, edit)
            self.assertRaises(BadEdit, edited, wrong, edit)


class Stories(unittest.TestCase):
    def test_what_is_one(self):
        made, _ = setting()
        for thing in (((), ()), ((1, -(2 ** 31)), (0, 1, 2)), ((), (("local", 0, "x", 5), 0, ("cell", 0, 1, 0, None))), ((), (0,) * 2048),
                      ((1,) * 3000, ())):
            self.assertTrue(is_story(made, thing))
        self.assertTrue(is_story(program=made, thing=((), ())))

    def test_what_is_none(self):
        made, _ = setting()
        for thing in (None, 5, (), ((),), [(), ()], ([], ()), ((), []), ((), (), ()), ((True,), ()), ((2 ** 31,), ()), (("1",), ()), ((), (3,)),
                      ((), (-1,)), ((), (True,)), ((), (None,)), ((), (("local", 3, "x", 5),)), ((), (["local", 0, "x", 5],)), ((), (0,) * 2049),
                      ((), ((),)), ((), "0")):
            self.assertFalse(is_story(made, thing))


class Idle(unittest.TestCase):
    def test_each_reason(self):
        made, moment = setting()
        # Thread 1 is held by the lock of thread 0, thread 2 has ended.
        self.assertEqual([is_idle(moment, [], thread) for thread in range(3)], [False, True, True])
        # A deed that goes wrong is done.
        bad = begun(program((("give", L("x")),), (("x", "int"),)))
        self.assertFalse(is_idle(bad, [], 0))
        wrong = stepped(bad, 0, [])[0]
        self.assertTrue(is_idle(wrong, [], 0))
        # An input lacks, is out of its bounds, or fits.
        ask = begun(program((("ask", "x", 0, 3),), (("x", "int"),)))
        self.assertEqual([is_idle(ask, inputs, 0) for inputs in ([], [4], [-1], [3], [0, 9])], [True, True, True, False, False])
        later = Moment(ask.program, ask.lives, ask.memory, (), ask.stacks, 1, (), None)
        self.assertEqual([is_idle(later, inputs, 0) for inputs in ([3], [9, 3], [3, 9])], [True, False, True])
        self.assertFalse(is_idle(moment=ask, inputs=(1,), entry=0))

    def test_over_runs(self):
        for made, inputs, weaving in runs(15):
            for moment in run(begun(made), inputs, weaving)[0]:
                for thread in range(len(made.threads)):
                    try:
                        stepped(moment, thread, inputs)
                        told = False
                    except WrongError:
                        told = True
                    self.assertEqual(is_idle(moment, inputs, thread), told)

    def test_errors(self):
        made, moment = setting()
        with self.assertRaises(BadMoment) as caught:
            is_idle(made, None, None)
        self.assertIsNone(caught.exception.part)
        for inputs in (None, 5, [True], [2 ** 31], "1"):
            self.assertRaises(BadInputs, is_idle, moment, inputs, None)
        for entry in (None, 3, -1, True, "0", ("local", 3, "x", 5), ["local", 0, "a", 7], ()):
            self.assertRaises(BadStory, is_idle, moment, [], entry)

    def test_nothing_is_changed(self):
        made, moment = setting()
        inputs = [1]
        is_idle(moment, inputs, 0), edited(moment, ("cell", 0, 1, 1, -5))
        self.assertEqual((moment, inputs), (setting()[1], [1]))


if __name__ == "__main__":
    unittest.main()
