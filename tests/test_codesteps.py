"""Points 42 and 43: code moments and steps of code."""

import random
import unittest

from made import I, L, all_runs, by_words, program, programs, weaving_of
from firstwrong.codemoments import CodeMoment, code_begun, to_code, to_tree
from firstwrong.codes import Code, checks_of, code_of, without
from firstwrong.codesteps import code_can_step, code_run, code_stepped
from firstwrong.errors import BadCode, BadInputs, BadMoment, BadNumber, BadTree, Lost, NotNow, WrongError
from firstwrong.moments import Moment, begun
from firstwrong.steps import can_step, run, stepped

P = ("to", "int")


def outcome(call):
    """What a call gives, or the error it raises with its attributes."""
    try:
        return call()
    except WrongError as error:
        return type(error), vars(error)


def parts_of(moment):
    return [moment.lives, dict(moment.memory), moment.held, moment.stacks, moment.asked, moment.given, moment.wrong]


class CodeMoments(unittest.TestCase):
    made = program((("call", "x", "f", (I(1),)), ("give", L("x"))), (("x", "int"), ("p", P)), (("s", "int", 1),), ("k",),
                   (("m", "byte", 2),), more=(("f", (("a", "int"),), (), (("n", "int", 1),), "int", (("return", L("a")),)),),
                   threads=("main", "main"))
    code = code_of(made)

    def parts(self, **changes):
        lives = [1, 1, 1, 1] + [0] * 28
        memory = {0: ("shared", "int", (0,)), 1: ("local", "byte", (None, 3)), 2: ("local", "byte", (0, 0)),
                  3: ("local", "int", (None,))}
        stacks = (((0, 1, (5, None), ((1, 1),), ""), (1, 0, (2,), ((3, 1),), "x")), ((0, 2, (None, (0, 0, 0)), ((2, 1),), ""),))
        found = {"lives": lives, "memory": memory, "held": (1,), "stacks": stacks, "asked": 0, "given": (), "wrong": None}
        found.update(changes)
        return found

    def bad(self, part, **changes):
        with self.assertRaises(BadMoment) as caught:
            CodeMoment(self.code, **self.parts(**changes))
        self.assertEqual(caught.exception.part, part, changes)

    def test_made(self):
        given = self.parts()
        moment = CodeMoment(self.code, **given)
        self.assertIs(moment.code, self.code)
        for name, value in self.parts().items():
            self.assertEqual(getattr(moment, name), tuple(value) if name == "lives" else value)
        given["lives"][0] = 5
        given["memory"].clear()
        self.assertEqual(moment, CodeMoment(self.code, **self.parts()))
        self.assertNotEqual(moment, CodeMoment(self.code, **self.parts(asked=1)))
        self.assertNotEqual(moment, CodeMoment(without(self.code, checks_of(self.code)[:1]), **self.parts()))
        self.assertNotEqual(moment, to_tree(self.made, moment))
        self.assertNotEqual(moment, None)

    def test_wrong_parts(self):
        changes = {"lives": None, "memory": None, "held": None, "stacks": None, "asked": None, "given": None, "wrong": 0}
        for number, name in enumerate(changes):
            self.bad(name, **{other: changes[other] for other in list(changes)[number:]})
        for place in (-1, 3, True, None, (), (("give", L("x")),)):
            stacks = self.parts()["stacks"]
            self.bad("stacks", stacks=(stacks[0], (stacks[1][0][:1] + (place,) + stacks[1][0][2:],)))
        self.bad("held", held=(2,))
        self.bad("memory", memory={})
        for thing in (None, self.made, self.code.lines):
            with self.assertRaises(BadCode) as caught:
                CodeMoment(thing, None, None, None, None, None, None, 0)
            self.assertIsNone(caught.exception.at)
            with self.assertRaises(BadCode) as caught:
                code_begun(thing)
            self.assertIsNone(caught.exception.at)

    def test_begun(self):
        for made in programs(25):
            code = code_of(made)
            first = code_begun(code)
            self.assertEqual(first, to_code(begun(made)))
            self.assertEqual(first, CodeMoment(code, *parts_of(first)))
            self.assertEqual([frame[1] for stack in first.stacks for frame in stack], [0] * len(made.threads))

    def test_to_tree(self):
        moment = CodeMoment(self.code, **self.parts())
        self.assertEqual(to_code(to_tree(program=self.made, moment=moment)), moment)
        bare = without(self.code, checks_of(self.code))
        self.assertEqual(to_tree(self.made, CodeMoment(bare, **self.parts())), to_tree(self.made, moment))
        for thing in (None, self.code):
            with self.assertRaises(BadTree):
                to_tree(thing, None)
        for thing in (None, begun(self.made)):
            with self.assertRaises(BadMoment) as caught:
                to_tree(self.made, thing)
            self.assertIsNone(caught.exception.part)
        for thing in (None, moment):
            with self.assertRaises(BadMoment) as caught:
                to_code(thing)
            self.assertIsNone(caught.exception.part)
        with self.assertRaises(BadCode) as caught:
            to_tree(program(()), moment)
        self.assertEqual(caught.exception.at, "program")

    def test_an_end_that_no_way_comes_to(self):
        made = program((("return",),))
        code = code_of(made)
        moment = CodeMoment(code, [0] * 32, {}, (), (((0, 1, (), (), ""),),), 0, (), None)
        with self.assertRaises(BadMoment) as caught:
            to_tree(made, moment)
        self.assertEqual(caught.exception.part, "stacks")
        # In the code it is an end like others.
        self.assertEqual(code_stepped(moment, 0, [])[0].stacks, ((),))


class CodeSteps(unittest.TestCase):
    def test_steps_of_code_are_those_of_the_tree(self):
        words = set()
        for made, inputs, weaving in all_runs(60):
            moments, traces = run(begun(made), inputs, weaving)
            codes, pairs = code_run(code_begun(code_of(made)), inputs, weaving)
            self.assertEqual(pairs, [trace[:2] for trace in traces])
            self.assertEqual(len(codes), len(moments))
            words.add(moments[-1].wrong and moments[-1].wrong[1])
            for moment, coded in zip(moments, codes):
                self.assertEqual(to_code(moment), coded)
                self.assertEqual(to_tree(made, coded), moment)
                for thread in range(len(made.threads)):
                    self.assertIs(code_can_step(coded, thread), can_step(moment, thread))
                    for given in (inputs, [], [-100] * 40):
                        first = outcome(lambda: stepped(moment, thread, given))
                        kept = parts_of(coded)
                        other = outcome(lambda: code_stepped(coded, thread, given))
                        self.assertEqual(kept, parts_of(coded))
                        if isinstance(first[0], Moment):
                            first = (to_code(first[0]), first[1][:2])
                        self.assertEqual(first, other)
        self.assertEqual(words, {None} | set(by_words()))

    def test_checks_left_out(self):
        """A step does the same, or is Lost where the code tells wrong by a check left out."""
        dice = random.Random(11)
        lost, kept = set(), set()
        for made, inputs, weaving in all_runs(60, first=900):
            code = code_of(made)
            every = checks_of(code)
            codes, pairs = code_run(code_begun(code), inputs, weaving)
            for share in (0.3, 0.8, 1.1):
                some = [name for name in every if dice.random() < share]
                less = without(code, some)
                for place, (thread, moment) in enumerate(zip(weaving, codes)):
                    after = codes[place + 1]
                    got = outcome(lambda: code_stepped(CodeMoment(less, *parts_of(moment)), thread, inputs))
                    if after.wrong is not None and self.telling(moment, thread, inputs, after.wrong[1]) in some:
                        self.assertEqual(got, (Lost, {"word": after.wrong[1]}))
                        lost.add(after.wrong[1])
                    else:
                        self.assertEqual(got, (CodeMoment(less, *parts_of(after)), pairs[place]))
                        kept.add(after.wrong and after.wrong[1])
        self.assertEqual(lost, set(by_words()))
        self.assertEqual(kept, {None} | set(by_words()))

    def telling(self, moment, thread, inputs, word):
        """The check without which this wrong step is Lost."""
        frame = moment.stacks[thread][-1]
        for spot, op in enumerate(moment.code.lines[frame[0]][frame[1]][0]):
            name = (frame[0], frame[1], spot)
            if op == ("check", word):
                one = CodeMoment(without(moment.code, [name]), *parts_of(moment))
                if outcome(lambda: code_stepped(one, thread, inputs))[0] is Lost:
                    return name
        self.fail("no check tells it")

    def test_each_check_alone(self):
        """The one check that tells the wrong makes it Lost, each other one nothing."""
        for word, rows in by_words().items():
            for made in rows:
                weaving = weaving_of(begun(made), [], 40, 0)
                code = code_of(made)
                codes, _ = code_run(code_begun(code), [], weaving)
                self.assertEqual(codes[-1].wrong, (0, word))
                telling = []
                for name in checks_of(code):
                    got = outcome(lambda: code_run(code_begun(without(code, [name])), [], weaving))
                    if got[0] is Lost:
                        telling.append(name)
                        self.assertEqual(code.lines[name[0]][name[1]][0][name[2]], ("check", word))
                        others = [other for other in checks_of(code) if other != name]
                        bare = without(code, others)
                        self.assertEqual(code_run(code_begun(bare), [], weaving)[0][-1].wrong, (0, word))
                    else:
                        self.assertEqual(got[0][-1].wrong, (0, word))
                self.assertEqual(len(telling), 1)

    def test_kind_at_a_moment_by_hand(self):
        made = program((("give", ("at", L("p"))),), (("p", P),), (("s", "byte", 1),))
        moment = Moment(made, [1] + [0] * 31, {0: ("shared", "byte", (7,))}, (),
                        (((0, made.functions[0][5], ((0, 1, 0),), (), ""),),), 0, (), None)
        wrong, pair = code_stepped(to_code(moment), 0, [])
        self.assertEqual((wrong.wrong, pair), ((0, "kind"), ((("block", 0, 1),), (("wrong",),))))
        self.assertEqual(to_code(stepped(moment, 0, [])[0]), wrong)
        bare = without(wrong.code, [name for name in checks_of(wrong.code) if name[2] == 5])
        self.assertEqual(checks_of(wrong.code)[4], (0, 0, 5))
        with self.assertRaises(Lost) as caught:
            code_stepped(CodeMoment(bare, *parts_of(to_code(moment))), 0, [])
        self.assertEqual(caught.exception.word, "kind")

    def test_goals_may_be_any_position(self):
        """A code need not come of a program: a line may lead to itself or to the end."""
        made = code_of(program((("give", I(1)), ("give", I(2)))))
        (one, _), (two, _) = made.lines[0]
        code = Code(made.head, (((one, (2,)), (two, (0,))),))
        self.assertEqual(code_run(code_begun(code), [], [0, 0])[0][-1].stacks, ((),))
        code = Code(made.head, (((one, (0,)), (two, (0,))),))
        self.assertEqual(code_run(code_begun(code), [], [0] * 9)[0][-1].given, (1,) * 9)

    def test_refusals(self):
        code = code_of(program((("ask", "x", 0, 1), ("take", "k")), (("x", "int"),), (), ("k",), threads=("main", "main")))
        first = code_begun(code)
        for thing in (None, 1, begun(program(()))):
            for call in (lambda: code_can_step(thing, -1), lambda: code_stepped(thing, -1, None),
                         lambda: code_run(thing, None, None)):
                with self.assertRaises(BadMoment) as caught:
                    call()
                self.assertIsNone(caught.exception.part)
        for thread in (-1, 2, True, None, "0"):
            for call in (lambda: code_can_step(first, thread), lambda: code_stepped(first, thread, None)):
                with self.assertRaises(BadNumber) as caught:
                    call()
                self.assertEqual(caught.exception.part, "thread")
        for inputs in (None, [True], [2 ** 31]):
            for call in (lambda: code_stepped(first, 0, inputs), lambda: code_run(first, inputs, None)):
                with self.assertRaises(BadInputs):
                    call()
        for weaving in (None, [True], [2]):
            with self.assertRaises(BadNumber) as caught:
                code_run(first, [], weaving)
            self.assertEqual(caught.exception.part, "weaving")
        for inputs, weaving, why in (([], [0], "inputs"), ([0, 1], [0, 1, 0, 1], "held"), ([0, 1], [0, 0, 0, 0], "ended")):
            with self.assertRaises(NotNow) as caught:
                code_run(moment=first, inputs=inputs, weaving=weaving)
            self.assertEqual(caught.exception.why, why)
        with self.assertRaises(BadInputs):
            code_stepped(first, 0, [2])
        wrong = code_of(program((("give", ("share", I(1), I(0))),)))
        with self.assertRaises(NotNow) as caught:
            code_run(code_begun(wrong), [], [0, 0])
        self.assertEqual(caught.exception.why, "wrong")


if __name__ == "__main__":
    unittest.main()
