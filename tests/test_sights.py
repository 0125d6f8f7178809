"""Points 80 and 81: sights, and sources of runs."""

import unittest

from made import I, L, program, runs
from firstwrong.errors import BadInputs, BadMoment, BadNumber, BadSight, BadTree, NotNow
from firstwrong.moments import Moment, begun
from firstwrong.sights import is_sight, seen, seen_at
from firstwrong.sources import sources_of, unlike_sources
from firstwrong.steps import run

P = ("to", "int")


def setting():
    """A program of two threads, and a moment of it with a stack of two frames."""
    made = program((("take", "k"), ("ask", "x", 0, 9), ("call", "x", "f", (L("x"),)), ("give", L("x"))), (("x", "int"), ("p", P)),
                   (("s", "int", 2),), ("k", "l"), (("m", "byte", 1),),
                   more=(("f", (("a", "int"),), (("b", "int"),), (("n", "int", 1),), "int", (("return", L("a")),)),),
                   threads=("main", "main"))
    return made, run(begun(made), [5], [0, 0, 0])[0][-1]


class Sights(unittest.TestCase):
    def test_what_is_one(self):
        made, _ = setting()
        for thing in (("cell", 0, 1, 0), ("cell", 31, 2 ** 30, 15), ("block", 0, 1), ("block", 31, 2 ** 30), ("free",), ("lock", "k"),
                      ("asked",), ("given",), ("wrong",), ("given", 0), ("given", 10 ** 20), ("local", 0, 1, "x"),
                      ("local", 1, 12, "abcdefghijkl"), ("name", 0, 1, "q"), ("name", 1, 12, "m"), ("way", 0), ("way", 1)):
            self.assertTrue(is_sight(made, thing), thing)
            self.assertTrue(is_sight(program=made, thing=thing))

    def test_what_is_none(self):
        made, _ = setting()
        for thing in (None, 5, (), [], "free", ["free"], ("cell", 32, 1, 0), ("cell", -1, 1, 0), ("cell", 0, 0, 0),
                      ("cell", 0, 2 ** 30 + 1, 0), ("cell", 0, 1, 16), ("cell", 0, 1, -1), ("cell", True, 1, 0), ("cell", 0, True, 0),
                      ("cell", 0, 1, False), ("cell", 0, 1), ("block", 32, 1), ("block", 0, 0), ("block", 0, 1, 0), ("free", 1),
                      ("lock", "m"), ("lock", 0), ("lock",), ("lock", "k", "k"), ("key", "k"), (None, "k"), ("cells", 0, 1, 0), ("blocks", 0, 1), ("block", 0, 1, 0, 0), ("cell", 0, 1, 0, 0), (["free"],), ("asked", 0), ("given", -1), ("given", True), ("given", None),
                      ("given", 0, 0), ("wrong", 0), ("local", 2, 1, "x"), ("local", -1, 1, "x"), ("local", 0, 0, "x"),
                      ("local", 0, 13, "x"), ("local", 0, 1, "X"), ("local", 0, 1, ""), ("local", 0, 1), ("local", True, 1, "x"),
                      ("local", 0, True, "x"), ("name", 0, 13, "m"), ("way", 2), ("way", True), ("way",), ("way", 0, 0),
                      ("input", 0), (None,), ((),), ("abc",), ["cell", 0, 1, 0]):
            self.assertFalse(is_sight(made, thing), thing)
        for thing in (None, 5, (1,)):
            with self.assertRaises(BadTree) as caught:
                is_sight(thing, 5)
            self.assertIsNone(caught.exception.at)

    def test_what_is_seen(self):
        made, moment = setting()
        body = made.functions[0][5]
        for sight, told in ((("cell", 0, 1, 0), 0), (("cell", 0, 1, 2), None), (("cell", 0, 2, 0), None), (("cell", 1, 1, 0), None),
                            (("block", 0, 1), ("shared", "int", 2)), (("block", 1, 1), ("local", "byte", 1)), (("block", 1, 2), None),
                            (("block", 9, 1), None), (("free",), moment.lives), (("lock", "k"), 0), (("lock", "l"), None),
                            (("asked",), 1), (("given",), ()), (("given", 0), None), (("wrong",), None), (("local", 0, 1, "x"), 5),
                            (("local", 0, 1, "p"), None), (("local", 0, 2, "a"), 5), (("local", 0, 2, "x"), None),
                            (("local", 0, 3, "x"), None), (("local", 0, 1, "m"), None), (("name", 0, 1, "m"), (1, 1)),
                            (("name", 1, 1, "m"), (2, 1)), (("name", 0, 2, "n"), (3, 1)), (("name", 0, 2, "m"), None),
                            (("name", 0, 1, "x"), None), (("name", 1, 2, "n"), None),
                            (("way", 0), ((0, body[3:], ""), (1, made.functions[1][5], "x"))), (("way", 1), ((0, body, ""),))):
            self.assertEqual(seen_at(moment, sight), told, sight)
            self.assertEqual(seen(moment, sight), told)
            self.assertEqual(seen(moment=moment, sight=sight), told)

    def test_given_and_wrong(self):
        made = program((("give", I(4)), ("give", I(9)), ("leave", "k")), locks=("k",))
        moment = run(begun(made), [], [0, 0, 0])[0][-1]
        self.assertEqual(seen_at(moment, ("given",)), (4, 9))
        self.assertEqual([seen_at(moment, ("given", k)) for k in (0, 1, 2)], [4, 9, None])
        self.assertEqual(seen_at(moment, ("wrong",)), (0, "lock"))

    def test_errors(self):
        made, moment = setting()
        for thing in (None, made, 5):
            with self.assertRaises(BadMoment) as caught:
                seen_at(thing, 5)
            self.assertIsNone(caught.exception.part)
        for sight in (None, ("lock", "z"), ["free"], ("local", 2, 1, "x")):
            self.assertRaises(BadSight, seen_at, moment, sight)


class Sources(unittest.TestCase):
    def test_told(self):
        made, moment = setting()
        told = (("cell", 0, 1, 0), ("cell", 0, 1, 1), ("cell", 1, 1, 0), ("cell", 2, 1, 0), ("cell", 3, 1, 0), ("input", 0), ("input", 1),
                ("local", 0, 1, "p"), ("local", 0, 1, "x"), ("local", 0, 2, "a"), ("local", 0, 2, "b"), ("local", 1, 1, "p"),
                ("local", 1, 1, "x"))
        self.assertEqual(sources_of(moment, [5, 6], [0]), told)
        self.assertEqual(sources_of(moment=moment, inputs=(5, 6), weaving=()), told)
        self.assertEqual(sources_of(begun(program(())), [], []), ())

    def test_errors_of_run(self):
        made, moment = setting()
        for call in (lambda *some: sources_of(*some), lambda *some: unlike_sources(*some, moment, [])):
            self.assertRaises(BadMoment, call, None, None, None)
            self.assertRaises(BadInputs, call, moment, [True], None)
            with self.assertRaises(BadNumber) as caught:
                call(moment, [], [True])
            self.assertEqual(caught.exception.part, "weaving")
        with self.assertRaises(NotNow) as caught:
            sources_of(begun(made), [], [0, 1])
        self.assertEqual(caught.exception.why, "held")
        self.assertRaises(BadInputs, sources_of, begun(made), [10], [0, 0])

    def changed(self, moment, **more):
        parts = {name: getattr(moment, name) for name in ("program", "lives", "memory", "held", "stacks", "asked", "given", "wrong")}
        parts.update(more)
        return Moment(**parts)

    def test_unlike(self):
        made, moment = setting()
        self.assertEqual(unlike_sources(moment, [5, 1], [], moment, [5, 1]), ())
        self.assertEqual(unlike_sources(moment, [5, 1], [], moment, [5]), (("input", 1),))
        self.assertEqual(unlike_sources(moment, [5], [], moment, (4, 1, 1)), (("input", 0), ("input", 1), ("input", 2)))
        memory = {**moment.memory, 0: ("shared", "int", (0, None)), 2: ("local", "byte", (0,))}
        stack = moment.stacks[1][0]
        other = self.changed(moment, memory=memory, stacks=(moment.stacks[0], ((stack[:2] + ((None, (0, 1, 0)),) + stack[3:]),)))
        told = (("cell", 0, 1, 1), ("cell", 2, 1, 0), ("local", 1, 1, "p"))
        self.assertEqual(unlike_sources(moment, [], [], other, []), told)
        self.assertEqual(unlike_sources(other, [], [0], moment, []), told)

    def test_not_akin(self):
        made, moment = setting()
        first = moment.stacks[0]
        lives = moment.lives[:9] + (2,) + moment.lives[10:]
        sort = {**moment.memory, 1: ("local", "byte", (None,)), 4: ("made", "int", (1,))}
        two = moment.lives[:4] + (1,) + moment.lives[5:]
        one = self.changed(moment, lives=two, memory=sort)
        for here, other in ((moment, begun(made)), (moment, self.changed(moment, asked=0)), (moment, self.changed(moment, given=(1,))),
                            (moment, self.changed(moment, held=(None, None))), (moment, self.changed(moment, wrong=(0, "null"))),
                            (moment, self.changed(moment, lives=lives)), (moment, one),
                            (one, self.changed(one, memory={**sort, 4: ("made", "byte", (1,))})),
                            (one, self.changed(one, memory={**sort, 4: ("made", "int", (1, 1))})),
                            (moment, self.changed(moment, stacks=(first[:1] + (first[1][:4] + ("",),), moment.stacks[1]))),
                            (moment, self.changed(moment, stacks=(((0, ()) + first[0][2:], first[1]), moment.stacks[1])))):
            with self.assertRaises(BadMoment) as caught:
                unlike_sources(here, [], [], other, [])
            self.assertEqual(caught.exception.part, "akin")
        # Names exchanged, or another program alone.
        two = begun(program((("give", I(1)),), (), blocks=(("m", "int", 1), ("n", "int", 1))))
        frame = two.stacks[0][0]
        names = Moment(two.program, two.lives, two.memory, (), ((frame[:3] + (frame[3][::-1],) + frame[4:],),), 0, (), None)
        idle = begun(program((("give", I(1)),), (), blocks=(("m", "int", 1), ("n", "int", 1)), more=(("f", (), (), (), "none", ()),)))
        for other in (names, idle):
            with self.assertRaises(BadMoment) as caught:
                unlike_sources(two, [], [], other, [])
            self.assertEqual(caught.exception.part, "akin")
        other = begun(program((("take", "k"),), (), (), ("k",), threads=("main", "main")))
        with self.assertRaises(BadMoment) as caught:
            unlike_sources(moment, [], [], other, [])
        self.assertEqual(caught.exception.part, "akin")

    def test_sequence_of_errors(self):
        made, moment = setting()
        start = begun(made)
        with self.assertRaises(NotNow) as caught:
            unlike_sources(start, [], [0, 0], None, None)
        self.assertEqual(caught.exception.why, "inputs")
        self.assertRaises(BadMoment, unlike_sources, start, [5], [0, 0], None, None)
        self.assertRaises(BadInputs, unlike_sources, start, [5], [0, 0], moment, None)
        with self.assertRaises(NotNow) as caught:
            unlike_sources(start, [5], [0, 0], start, [])
        self.assertEqual(caught.exception.why, "inputs")
        one = begun(program((("give", I(1)),)))
        with self.assertRaises(BadNumber) as caught:
            unlike_sources(start, [5], [1], one, [])
        self.assertEqual(caught.exception.part, "weaving")

    def test_nothing_is_changed(self):
        made, moment = setting()
        inputs, weaving = [5], [0]
        sources_of(moment, inputs, weaving), unlike_sources(moment, inputs, weaving, moment, inputs)
        self.assertEqual((inputs, weaving, moment), ([5], [0], setting()[1]))


if __name__ == "__main__":
    unittest.main()
