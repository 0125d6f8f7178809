"""Points 32 to 35: wrong words, steps, traces, runs."""

import unittest

from made import I, L, Maker, inputs_of, program, runs, weaving_of
from firstwrong.errors import BadInputs, BadMoment, BadNumber, NotNow
from firstwrong.moments import Moment, begun
from firstwrong.steps import can_step, first_wrong, is_clean, run, stepped, undone

INT, BYTE, P, Q, PP = "int", "byte", ("to", "int"), ("to", "byte"), ("to", ("to", "int"))
LOCALS = (("x", INT), ("y", INT), ("b", BYTE), ("c", BYTE), ("p", P), ("o", P), ("q", Q), ("r", PP))
ROW, GONE, NULL = (0, 1, 0), (1, 1, 0), (0, 0, 0)
S, M, N = ("shared", "s"), ("block", "m"), ("null", INT)
LOW, HIGH = -(2 ** 31), 2 ** 31 - 1


def at(statement, more=(), params=(), locks=("k", "l"), result="none", threads=("main", "main"), **changes):
    """A moment at which thread 0 is at a statement.

    Slots: 0 shared int s[3] = 7 8 unset; 1 an int block gone; 2 the local byte
    block m[2] = 5 unset; 3 that of thread 1; 4 a made int block of 2; 5 a made
    block of pointers; x, b, p, o, q, r are set as told.
    """
    made = program((statement,), LOCALS, (("s", INT, 3),), locks, (("m", BYTE, 2),), params, result,
                   (("f", (("a", INT), ("d", P)), (("e", INT),), (("u", INT, 2), ("v", BYTE, 1)), INT, (("return", L("a")),)),
                    ("g", (), (), (), "none", ())) + tuple(more), threads)
    values = {"x": 6, "y": None, "b": 9, "c": 200, "p": ROW, "o": (4, 2, 0), "q": (2, 1, 0), "r": (5, 1, 0)}
    values.update(changes.pop("values", {}))
    todo = changes.pop("todo", made.functions[0][5])
    stacks = changes.pop("stacks", None) or tuple(
        ((0, todo, tuple(values[word] for word, _ in LOCALS), ((2 + thread, 1),), ""),) for thread in range(len(threads)))
    lives = [1, 2, 1, 1, 3, 1] + [0] * 26
    memory = {0: ("shared", INT, (7, 8, None)), 2: ("local", BYTE, (5, None)), 3: ("local", BYTE, (None, None)),
              4: ("made", INT, (1, None)), 5: ("made", P, ((4, 2, 1), NULL, None))}
    memory.update(changes.pop("memory", {}))
    parts = {"lives": lives, "memory": memory, "held": (None,) * len(locks), "stacks": stacks, "asked": 1, "given": (3,),
             "wrong": None}
    parts.update(changes)
    return Moment(made, **parts)


def block(slot, life=1):
    return ("block", slot, life)


def cell(slot, offset, life=1):
    return ("cell", slot, life, offset)


def on(pointer, by):
    return ("on", pointer, I(by))


class Expressions(unittest.TestCase):
    """What ("let", local, e) does, e of each sort."""

    def result(self, e, word, **changes):
        moment = at(("let", word, e), **changes)
        after, (reads, writes, back) = stepped(moment, 0, [])
        self.assertEqual(undone(after, back), moment)
        if after.wrong is not None:
            self.assertEqual(after.wrong[0], 0)
            self.assertEqual(writes, (("wrong",),))
            self.assertEqual(after, Moment(moment.program, moment.lives, moment.memory, moment.held, moment.stacks,
                                           moment.asked, moment.given, after.wrong))
            return after.wrong[1], reads
        self.assertEqual(writes, ())
        place = [w for w, _ in LOCALS].index(word)
        self.assertEqual(after.stacks[0][0][1], ())
        return after.stacks[0][0][2][place], reads

    def check(self, word, e, value, *reads, **changes):
        self.assertEqual(self.result(e, word, **changes), (value, reads), e)

    def test_leaves(self):
        for e, value in ((I(LOW), LOW), (L("x"), 6), (L("y"), "unset")):
            self.check("x", e, value)
        for e, value in ((("byte", 255), 255), (L("b"), 9)):
            self.check("b", e, value)
        for e, value in ((N, NULL), (S, ROW), (L("p"), ROW)):
            self.check("p", e, value)
        self.check("q", M, (2, 1, 0))
        self.check("q", ("null", BYTE), NULL)

    def test_at(self):
        self.check("x", ("at", S), 7, block(0), cell(0, 0))
        self.check("x", ("at", on(S, 1)), 8, block(0), cell(0, 1))
        self.check("x", ("at", on(S, 2)), "unset", block(0), cell(0, 2))
        self.check("x", ("at", on(S, 3)), "beyond", block(0))
        self.check("x", ("at", N), "null")
        self.check("x", ("at", L("p")), "gone", block(1), values={"p": GONE})
        self.check("x", ("at", L("p")), "gone", block(4), values={"p": (4, 1, 0)})
        self.check("x", ("at", L("p")), "gone", block(9, 3), values={"p": (9, 3, 16)})
        self.check("x", ("at", L("p")), "unset", values={"p": None})
        self.check("b", ("at", M), 5, block(2), cell(2, 0))
        self.check("p", ("at", L("r")), (4, 2, 1), block(5), cell(5, 0))
        self.check("x", ("at", ("at", L("r"))), "unset", block(4, 2), block(5), cell(4, 1, 2), cell(5, 0))
        self.check("x", ("at", ("at", on(L("r"), 1))), "null", block(5), cell(5, 1))
        self.check("x", ("at", L("p")), "beyond", block(0), values={"p": (0, 1, 16)})

    def test_kind(self):
        self.check("x", ("at", L("p")), "kind", block(2), values={"p": (2, 1, 0)})
        self.check("b", ("at", L("q")), "kind", block(0), values={"q": ROW})
        self.check("p", ("at", L("r")), "kind", block(0), values={"r": ROW})
        self.check("x", ("at", L("p")), "beyond", block(2), values={"p": (2, 1, 2)})

    def test_on(self):
        for by, value in ((0, ROW), (3, (0, 1, 3)), (4, "beyond"), (-1, "beyond"), (HIGH, "beyond")):
            self.check("p", on(S, by), value, block(0))
        self.check("p", on(on(S, 3), -3), ROW, block(0))
        self.check("p", on(N, 0), NULL)
        self.check("p", on(N, 1), "null")
        self.check("p", on(N, -1), "null")
        self.check("p", on(L("p"), 0), "gone", block(1), values={"p": GONE})
        self.check("p", ("on", S, L("y")), "unset")
        self.check("p", ("on", L("p"), ("share", I(1), I(0))), "share", values={"p": GONE})

    def test_gap_and_below(self):
        two = on(S, 2)
        for e, gap, below, reads in (((two, S), 2, 0, (block(0),)), ((S, two), -2, 1, (block(0),)),
                                     ((S, S), 0, 0, (block(0),)), ((N, N), 0, 0, ()), ((N, S), "null", "null", (block(0),)),
                                     ((S, N), "null", "null", (block(0),)),
                                     ((S, L("o")), "unlike", "unlike", (block(0), block(4, 2)))):
            self.check("x", ("gap",) + e, gap, *reads)
            self.check("x", ("below",) + e, below, *reads)
        gone = {"values": {"p": GONE}}
        for word in ("gap", "below"):
            self.check("x", (word, L("p"), S), "gone", block(0), block(1), **gone)
            self.check("x", (word, S, L("p")), "gone", block(0), block(1), **gone)
            self.check("x", (word, L("p"), L("p")), "gone", block(1), **gone)
            self.check("x", (word, L("p"), N), "null", block(1), **gone)
        for first, second, value in ((1, 2, 1), (2, 1, 0), (2, 2, 0), (LOW, HIGH, 1)):
            self.check("x", ("below", I(first), I(second)), value)
        self.check("x", ("below", L("b"), L("c")), 1)

    def test_same(self):
        self.check("x", ("same", I(3), I(3)), 1)
        self.check("x", ("same", L("b"), L("c")), 0)
        self.check("x", ("same", S, S), 1, block(0))
        self.check("x", ("same", S, on(S, 1)), 0, block(0))
        self.check("x", ("same", S, L("o")), 0, block(0), block(4, 2))
        self.check("x", ("same", N, S), 0, block(0))
        self.check("x", ("same", L("o"), N), 0, block(4, 2))
        self.check("x", ("same", N, N), 1)
        gone = {"values": {"p": GONE}}
        self.check("x", ("same", L("p"), L("p")), "gone", block(1), **gone)
        self.check("x", ("same", S, L("p")), "gone", block(0), block(1), **gone)
        self.check("x", ("same", N, L("p")), "gone", block(1), **gone)

    def test_ints(self):
        for word, first, second, value in (
                ("sum", HIGH, 1, "great"), ("sum", HIGH, 0, HIGH), ("sum", LOW, -1, "great"), ("sum", LOW, HIGH, -1),
                ("less", LOW, 1, "great"), ("less", -1, HIGH, LOW), ("less", 0, LOW, "great"), ("times", 65536, 32768, "great"),
                ("times", -65536, 32768, LOW), ("times", LOW, -1, "great"), ("times", -7, 3, -21), ("share", 7, 2, 3),
                ("share", -7, 2, -4), ("share", 7, -2, -4), ("share", -7, -2, 3), ("share", LOW, -1, "great"),
                ("share", LOW, 1, LOW), ("share", 5, 0, "share"), ("rest", 7, 2, 1), ("rest", -7, 2, 1), ("rest", 7, -2, -1),
                ("rest", -7, -2, -1), ("rest", LOW, -1, 0), ("rest", 0, 0, "share")):
            self.check("x", (word, I(first), I(second)), value)

    def test_bytes(self):
        byte = lambda number: ("byte", number)
        for word, first, second, value in (("sum", 200, 100, 44), ("less", 3, 5, 254), ("times", 16, 17, 16),
                                           ("times", 16, 16, 0), ("share", 255, 2, 127), ("share", 1, 0, "share"),
                                           ("rest", 255, 16, 15), ("rest", 4, 0, "share"), ("sum", 255, 1, 0)):
            self.check("b", (word, byte(first), byte(second)), value)
        self.check("x", ("wide", L("c")), 200)
        for number, value in ((0, 0), (255, 255), (256, 0), (-1, 255), (LOW, 0), (HIGH, 255), (-257, 255)):
            self.check("b", ("low", I(number)), value)

    def test_truths(self):
        wrong = ("share", I(1), I(0))
        for e, value in ((("not", I(0)), 1), (("not", I(5)), 0), (("and", I(0), wrong), 0), (("and", I(2), I(3)), 1),
                         (("and", I(2), I(0)), 0), (("and", I(2), wrong), "share"), (("or", I(7), wrong), 1),
                         (("or", I(0), I(-4)), 1), (("or", I(0), I(0)), 0), (("or", I(0), wrong), "share"),
                         (("and", wrong, I(0)), "share")):
            self.check("x", e, value)
        self.check("x", ("or", ("at", S), ("at", on(S, 1))), 1, block(0), cell(0, 0))

    def test_from_left_to_right(self):
        self.check("x", ("sum", L("y"), ("share", I(1), I(0))), "unset")
        self.check("x", ("sum", ("share", I(1), I(0)), L("y")), "share")
        self.check("x", ("sum", ("at", S), L("y")), "unset", block(0), cell(0, 0))
        self.check("x", ("gap", on(S, 4), L("p")), "beyond", block(0), values={"p": None})


class Statements(unittest.TestCase):
    def step(self, moment, inputs=(), thread=0):
        before = [moment.lives, dict(moment.memory), moment.held, moment.stacks, moment.asked, moment.given, moment.wrong]
        after, (reads, writes, back) = stepped(moment, thread, list(inputs))
        self.assertEqual(before, [moment.lives, moment.memory, moment.held, moment.stacks, moment.asked, moment.given,
                                  moment.wrong])
        self.assertEqual(undone(after, back), moment)
        self.assertEqual(reads, tuple(sorted(set(reads))))
        self.assertEqual(writes, tuple(sorted(set(writes))))
        return after, reads, writes

    def wrong(self, moment, word, *reads):
        after, got, writes = self.step(moment)
        self.assertEqual((after.wrong, got, writes), ((0, word), reads, (("wrong",),)))
        self.assertEqual((after.stacks, after.memory, after.lives, after.held), (moment.stacks, moment.memory, moment.lives,
                                                                               moment.held))

    def values(self, moment, word):
        return moment.stacks[0][0][2][[w for w, _ in LOCALS].index(word)]

    def test_store(self):
        after, reads, writes = self.step(at(("store", on(S, 2), I(5))))
        self.assertEqual(after.memory[0], ("shared", INT, (7, 8, 5)))
        self.assertEqual((reads, writes), ((block(0),), (cell(0, 2),)))
        after, reads, writes = self.step(at(("store", L("r"), L("p"))))
        self.assertEqual(after.memory[5], ("made", P, (ROW, NULL, None)))
        self.assertEqual((reads, writes), ((block(5),), (cell(5, 0),)))
        self.wrong(at(("store", N, I(1))), "null")
        self.wrong(at(("store", N, L("y"))), "unset")
        self.wrong(at(("store", L("p"), I(1)), values={"p": GONE}), "gone", block(1))
        self.wrong(at(("store", on(S, 3), I(1))), "beyond", block(0))
        self.wrong(at(("store", L("p"), I(1)), values={"p": (2, 1, 0)}), "kind", block(2))
        self.wrong(at(("store", L("p"), ("at", on(S, 2))), values={"p": GONE}), "unset", block(0), cell(0, 2))

    def test_make(self):
        for many in (1, 16):
            after, reads, writes = self.step(at(("make", "p", INT, I(many))))
            self.assertEqual(after.memory[1], ("made", INT, (None,) * many))
            self.assertEqual(after.lives[1], 3)
            self.assertEqual(self.values(after, "p"), (1, 2, 0))
            self.assertEqual((reads, writes), ((("free",),), (block(1, 2), ("free",))))
        for many in (0, 17, -1, LOW):
            self.wrong(at(("make", "p", INT, I(many))), "great")
        after, _, writes = self.step(at(("make", "r", P, I(1))))
        self.assertEqual(after.memory[1], ("made", P, (None,)))

    def test_least_free_slot(self):
        last = 2 ** 31 - 2
        lives = [1, last, 1, 1, 3, 1, last, 2 ** 31 - 4] + [0] * 24
        after, _, writes = self.step(at(("make", "p", INT, I(1)), lives=lives))
        self.assertEqual(after.lives[7], 2 ** 31 - 3)
        self.assertEqual(self.values(after, "p"), (7, 2 ** 30 - 1, 0))
        self.assertEqual(writes, (block(7, 2 ** 30 - 1), ("free",)))
        full = {slot: ("made", INT, (1,)) for slot in range(6, 32)}
        lives = [1, last, 1, 1, 3, 1] + [1] * 26
        after, reads, writes = self.step(at(("make", "p", INT, I(1)), lives=lives, memory=full))
        self.assertEqual((self.values(after, "p"), after.lives, after.memory.keys()), (NULL, tuple(lives), set(range(32)) - {1}))
        self.assertEqual((reads, writes), ((("free",),), ()))
        del full[31]
        lives[31] = 0
        after, reads, writes = self.step(at(("make", "p", INT, I(1)), lives=lives, memory=full))
        self.assertEqual((self.values(after, "p"), writes), ((31, 1, 0), (block(31), ("free",))))

    def test_away(self):
        after, reads, writes = self.step(at(("away", L("o"))))
        self.assertNotIn(4, after.memory)
        self.assertEqual(after.lives[4], 4)
        self.assertEqual((reads, writes), ((block(4, 2),), (block(4, 2), ("free",))))
        after, reads, writes = self.step(at(("away", N)))
        self.assertEqual((reads, writes, after.wrong), ((), (), None))
        self.wrong(at(("away", L("o")), values={"o": GONE}), "gone", block(1))
        self.wrong(at(("away", L("o")), values={"o": (1, 1, 1)}), "gone", block(1))
        self.wrong(at(("away", on(L("o"), 1))), "away", block(4, 2))
        self.wrong(at(("away", S)), "away", block(0))
        self.wrong(at(("away", M)), "away", block(2))
        self.wrong(at(("away", L("p")), values={"p": None}), "unset")

    def test_ask_and_give(self):
        moment = at(("ask", "y", -2, 3))
        for value in (-2, 0, 3):
            after, reads, writes = self.step(moment, [9, value])
            self.assertEqual((self.values(after, "y"), after.asked, reads, writes),
                             (value, 2, (("asked",),), (("asked",),)))
        for inputs in ([], [1]):
            with self.assertRaises(NotNow) as caught:
                stepped(moment, 0, inputs)
            self.assertEqual(caught.exception.why, "inputs")
        for value in (-3, 4):
            with self.assertRaises(BadInputs):
                stepped(moment, 0, [0, value])
        after, reads, writes = self.step(at(("give", ("at", S))))
        self.assertEqual((after.given, reads, writes), ((3, 7), (block(0), cell(0, 0), ("given",)), (("given",),)))
        self.wrong(at(("give", L("y"))), "unset")

    def test_if_and_while(self):
        a, b, c = (("give", I(n)) for n in range(3))
        fork, loop = ("if", L("x"), (a,), (b,)), ("while", L("x"), (a, b))
        for first, value, todo in ((fork, 6, (a, c)), (fork, 0, (b, c)), (loop, -1, (a, b, loop, c)), (loop, 0, (c,))):
            made = program((first, c), (("x", INT),))
            moment = Moment(made, [0] * 32, {}, (), (((0, (first, c), (value,), (), ""),),), 0, (), None)
            after, reads, writes = self.step(moment)
            self.assertEqual((after.stacks[0][0][1], reads, writes), (todo, (), ()))
        made = program((loop,), (("x", INT),))
        self.wrong(begun(made), "unset")

    def test_call_and_return(self):
        moment = at(("call", "y", "f", (L("x"), S)))
        after, reads, writes = self.step(moment)
        self.assertEqual(after.stacks[0][0][1], ())
        self.assertEqual(after.stacks[0][1], (1, (("return", L("a")),), (6, ROW, None), ((1, 2), (6, 1)), "y"))
        self.assertEqual((after.memory[1], after.memory[6]), (("local", INT, (None, None)), ("local", BYTE, (None,))))
        self.assertEqual((reads, writes), ((("free",),), (block(1, 2), block(6), ("free",))))
        self.assertEqual((after.lives[1], after.lives[6]), (3, 1))
        ended, reads, writes = self.step(after)
        self.assertEqual((self.values(ended, "y"), len(ended.stacks[0])), (6, 1))
        self.assertEqual((reads, writes), ((), (block(1, 2), block(6), ("free",))))
        self.assertEqual((ended.lives[1], ended.lives[6], sorted(ended.memory)), (4, 2, [0, 2, 3, 4, 5]))
        self.wrong(at(("call", "y", "f", (L("x"), on(N, 1)))), "null")
        after, reads, writes = self.step(at(("call", "", "g", ())))
        self.assertEqual((after.stacks[0][1], reads, writes), ((2, (), (), (), ""), (), ()))
        after, reads, writes = self.step(after)
        self.assertEqual((reads, writes, len(after.stacks[0])), ((), (), 1))

    def test_lost_values_are_worked_out(self):
        more = (("h", (), (("z", INT),), (), INT, (("return", L("z")),)),)
        moment = self.step(at(("call", "", "h", ()), more=more))[0]
        self.wrong(moment, "unset")
        # The last frame of a thread: its value is lost, but worked out.
        made = program((("return", ("at", ("shared", "s"))),), (), (("s", INT, 1),), result=INT)
        after, reads, writes = self.step(begun(made))
        self.assertEqual((after.stacks, reads, writes), (((),), (block(0), cell(0, 0)), ()))

    def test_end_without_a_value(self):
        more = (("h", (), (), (), INT, ()),)
        moment = at(("call", "x", "h", ()), more=more)
        after = self.step(moment)[0]
        self.assertEqual(self.values(after, "x"), 6)
        after, reads, writes = self.step(after)
        self.assertEqual((self.values(after, "x"), reads, writes), (None, (), ()))

    def test_end_of_a_thread(self):
        moment = at(("give", I(1)))
        moment = self.step(moment)[0]
        after, reads, writes = self.step(moment)
        self.assertEqual((after.stacks[0], reads, writes), ((), (), (block(2), ("free",))))
        self.assertFalse(can_step(after, 0))
        with self.assertRaises(NotNow) as caught:
            stepped(after, 0, [])
        self.assertEqual(caught.exception.why, "ended")

    def test_twelve_frames(self):
        made = program((("call", "", "main", ()),))
        moments, traces = run(begun(made), [], [0] * 12)
        self.assertEqual([len(moment.stacks[0]) for moment in moments], list(range(1, 13)) + [12])
        self.assertEqual(moments[-1].wrong, (0, "deep"))
        self.assertEqual(traces[-1][:2], ((), (("wrong",),)))

    def test_no_slots_for_a_call(self):
        for many, wrong in ((23, None), (24, None), (25, (0, "deep")), (26, (0, "deep"))):
            full = {slot: ("made", INT, (1,)) for slot in range(6, 6 + many)}
            lives = [1, 2, 1, 1, 3, 1] + [1] * many + [0] * (26 - many)
            moment = at(("call", "y", "f", (I(1), N)), lives=lives, memory=full)
            lives[1] = 2 ** 31 - 2
            if wrong:
                moment = at(("call", "y", "f", (I(1), N)), lives=lives, memory=full)
                self.wrong(moment, "deep", ("free",))
            else:
                self.assertIsNone(self.step(moment)[0].wrong)

    def test_locks(self):
        after, reads, writes = self.step(at(("take", "l")))
        self.assertEqual((after.held, reads, writes), ((None, 0), (("lock", "l"),), (("lock", "l"),)))
        self.wrong(at(("take", "l"), held=(None, 0)), "lock", ("lock", "l"))
        moment = at(("take", "l"), held=(None, 1))
        self.assertIs(can_step(moment, 0), False)
        with self.assertRaises(NotNow) as caught:
            stepped(moment, 0, [])
        self.assertEqual(caught.exception.why, "held")
        after, reads, writes = self.step(at(("leave", "k"), held=(0, 1)))
        self.assertEqual((after.held, reads, writes), ((None, 1), (("lock", "k"),), (("lock", "k"),)))
        for held in ((None, None), (1, None)):
            self.wrong(at(("leave", "k"), held=held), "lock", ("lock", "k"))
        self.assertIs(can_step(at(("leave", "k"), held=(1, 1)), 0), True)


class Refusals(unittest.TestCase):
    def test_threads(self):
        moment = at(("give", I(1)))
        for thread in (-1, 2, True, False, None, "0", 0.0):
            for call in (lambda: can_step(moment, thread), lambda: stepped(moment, thread, None)):
                with self.assertRaises(BadNumber) as caught:
                    call()
                self.assertEqual(caught.exception.part, "thread")

    def test_moments(self):
        for wrong in (None, 1, moment_parts()):
            for call in (lambda: can_step(wrong, -1), lambda: stepped(wrong, -1, None), lambda: undone(wrong, None),
                         lambda: run(wrong, 1, 1), lambda: first_wrong(wrong, 1, 1), lambda: is_clean(wrong, 1, 1)):
                with self.assertRaises(BadMoment) as caught:
                    call()
                self.assertIsNone(caught.exception.part)

    def test_inputs(self):
        moment = at(("give", I(1)), wrong=(0, "gone"))
        for inputs in (None, 1, "12", {}, [True], [None], ["1"], [1.0], [2 ** 31], [LOW - 1], [1, [1]]):
            for call in (lambda: stepped(moment, 0, inputs), lambda: run(moment, inputs, None),
                         lambda: first_wrong(moment, inputs, None), lambda: is_clean(moment, inputs, None)):
                with self.assertRaises(BadInputs):
                    call()

    def test_sequence(self):
        with self.assertRaises(NotNow) as caught:
            stepped(at(("ask", "x", 0, 1), wrong=(1, "gone")), 0, [])
        self.assertEqual(caught.exception.why, "wrong")
        made = program((("take", "k"),), locks=("k",), threads=("main", "main"))
        first = run(begun(made), [], [0, 0])[0][-1]
        self.assertEqual(first.stacks[0], ())
        for moment, thread, why in ((first, 0, "ended"), (first, 1, "held")):
            with self.assertRaises(NotNow) as caught:
                stepped(moment, thread, ())
            self.assertEqual(caught.exception.why, why)
        wrong = Moment(made, first.lives, first.memory, first.held, first.stacks, 0, (), (1, "lock"))
        for thread in (0, 1):
            self.assertFalse(can_step(wrong, thread))
            with self.assertRaises(NotNow) as caught:
                stepped(wrong, thread, [])
            self.assertEqual(caught.exception.why, "wrong")
        self.assertTrue(can_step(begun(program((("ask", "x", 0, 1),), (("x", INT),))), 0))

    def test_weavings(self):
        moment = begun(program((), threads=("main", "main")))
        for weaving in (None, 1, "0", {}, [True], [2], [-1], [None], [0.0], [0, [0]]):
            for call in (run, first_wrong, is_clean):
                with self.assertRaises(BadNumber) as caught:
                    call(moment, [], weaving)
                self.assertEqual(caught.exception.part, "weaving")
        self.assertEqual(run(moment=moment, inputs=(), weaving=(1, 0))[0][-1].stacks, ((), ()))

    def test_backs(self):
        moment = at(("store", S, I(1)))
        after, (_, _, back) = stepped(moment, 0, [])
        self.assertIsInstance(back, tuple)
        self.assertEqual(undone(moment=after, back=back), moment)
        bad = [None, 1, "x", {}, (), list(back), back[:-1], back + (None,), back + back, True]
        for place in range(len(back)):
            for other in (None, True, "x", -1, [], {}, 1.5, ((1,),)):
                changed = back[:place] + (other,) + back[place + 1:]
                bad.append(changed)
        for thing in bad:
            with self.assertRaises(BadMoment, msg=thing) as caught:
                undone(after, thing)
            self.assertEqual(caught.exception.part, "back")


def moment_parts():
    moment = at(("give", I(1)))
    return (moment.program, moment.lives, moment.memory, moment.held, moment.stacks, 0, (), None)


class Runs(unittest.TestCase):
    def test_run_is_step_by_step(self):
        words = set()
        for made, inputs, weaving in runs(400):
            moment = begun(made)
            moments, traces = run(moment, inputs, weaving)
            self.assertEqual((len(moments), len(traces)), (len(weaving) + 1, len(weaving)))
            self.assertIsInstance(moments, list)
            self.assertIsInstance(traces, list)
            for place, thread in enumerate(weaving):
                self.assertEqual(moments[place], moment)
                kept = (moment.lives, dict(moment.memory), moment.stacks)
                after, trace = stepped(moment, thread, inputs)
                self.assertEqual(traces[place], trace)
                self.assertEqual(kept, (moment.lives, moment.memory, moment.stacks))
                self.assertEqual(undone(after, trace[2]), moment)
                moment = after
            self.assertEqual(moments[-1], moment)
            wrong = None if moment.wrong is None else (len(weaving) - 1,) + moment.wrong
            self.assertEqual(first_wrong(begun(made), inputs, weaving), wrong)
            self.assertIs(is_clean(begun(made), inputs, weaving), wrong is None)
            words.add(wrong and wrong[2])
        self.assertLessEqual({None, "unset", "null", "gone", "beyond", "unlike", "great", "share", "away", "lock"}, words)

    def test_behind_the_first_wrong(self):
        made = program((("give", ("share", I(1), I(0))),), threads=("main", "main"))
        self.assertEqual(first_wrong(begun(made), [], [1, 0, 0, 1, 1, 1]), (0, 1, "share"))
        with self.assertRaises(NotNow) as caught:
            run(begun(made), [], [1, 0])
        self.assertEqual(caught.exception.why, "wrong")
        wrong = stepped(begun(made), 0, [])[0]
        self.assertIsNone(first_wrong(wrong, [], []))
        with self.assertRaises(NotNow):
            first_wrong(wrong, [], [0])
        made = program((), threads=("main",))
        with self.assertRaises(NotNow) as caught:
            first_wrong(begun(made), [], [0, 0])
        self.assertEqual(caught.exception.why, "ended")

    def test_cells_tell_what_a_step_hangs_on(self):
        """What a step does not write it leaves as it was."""
        for made, inputs, weaving in runs(120, first=300):
            moments, traces = run(begun(made), inputs, weaving)
            for thread, before, after, (_, writes, _) in zip(weaving, moments, moments[1:], traces):
                if after.wrong is not None:
                    self.assertEqual(writes, (("wrong",),))
                    continue
                self.assertEqual(before.lives != after.lives, ("free",) in writes)
                self.assertEqual(before.asked != after.asked, ("asked",) in writes)
                self.assertEqual(before.given != after.given, ("given",) in writes)
                for word, one, other in zip(made.locks, before.held, after.held):
                    self.assertEqual(one != other, ("lock", word) in writes)
                for slot in range(32):
                    life = (max(before.lives[slot], after.lives[slot]) + 1) // 2
                    came = before.lives[slot] != after.lives[slot]
                    self.assertEqual(came, ("block", slot, life) in writes)
                    if not came and slot in before.memory:
                        cells = zip(before.memory[slot][2], after.memory[slot][2])
                        for offset, (one, other) in enumerate(cells):
                            if one != other:
                                self.assertIn(("cell", slot, life, offset), writes)
                for other in range(len(made.threads)):
                    if other != thread:
                        self.assertEqual(before.stacks[other], after.stacks[other])


if __name__ == "__main__":
    unittest.main()
