"""Points 40, 41 and 49: checked code, and codes as bytes."""

import random
import unittest

from made import I, L, Maker, program, programs
from firstwrong.codebytes import code_bytes, code_of_bytes
from firstwrong.codes import Code, checks_of, code_of, full, instruction_of, without
from firstwrong.errors import BadBytes, BadCheck, BadCode, BadNumber, BadTree
from firstwrong.trees import tree_of

INT, BYTE, P, Q, PP = "int", "byte", ("to", "int"), ("to", "byte"), ("to", ("to", "int"))
LOCALS = (("x", INT), ("b", BYTE), ("p", P), ("q", Q), ("r", PP))
S, M = ("shared", "s"), ("block", "m")
U = ("check", "unset")


def checks(*words):
    return tuple(("check", word) for word in words)


def code(*statements, result="none"):
    more = (("f", (("a", INT), ("c", P)), (), (), INT, ()), ("g", (), (), (), "none", ()))
    return code_of(program(statements, LOCALS, (("s", INT, 2), ("t", Q, 1)), ("k", "l"), (("m", BYTE, 2),), (), result, more))


def ops(statement, **more):
    return code(statement, **more).lines[0][0][0]


class Ops(unittest.TestCase):
    def test_expressions(self):
        deref = checks("null", "gone", "beyond", "kind") + (("at",), U)
        for sort, word, e, expected in (
                (INT, "x", I(5), (I(5),)), (INT, "x", L("x"), (L("x"), U)), (BYTE, "b", ("byte", 7), (("byte", 7),)),
                (P, "p", ("null", INT), (("null", INT),)), (P, "p", S, (S,)), (Q, "q", M, (M,)),
                (INT, "x", ("at", S), (S,) + deref), (P, "p", ("at", L("r")), (L("r"), U) + deref),
                (P, "p", ("on", S, I(1)), (S, I(1)) + checks("null", "gone", "beyond") + (("on",),)),
                (INT, "x", ("gap", S, L("p")), (S, L("p"), U) + checks("null", "gone", "unlike") + (("gap",),)),
                (INT, "x", ("below", M, M), (M, M) + checks("null", "gone", "unlike") + (("below",),)),
                (INT, "x", ("below", I(1), I(2)), (I(1), I(2), ("below",))),
                (INT, "x", ("same", M, M), (M, M) + checks("gone") + (("same",),)),
                (INT, "x", ("same", L("b"), ("byte", 1)), (L("b"), U, ("byte", 1), ("same",))),
                (INT, "x", ("wide", L("b")), (L("b"), U, ("wide",))), (BYTE, "b", ("low", I(3)), (I(3), ("low",))),
                (INT, "x", ("not", I(3)), (I(3), ("not",))),
                (INT, "x", ("and", L("x"), L("x")), (L("x"), U, ("and", 2), L("x"), U, ("truth",))),
                (INT, "x", ("or", I(1), ("and", I(2), L("x"))),
                 (I(1), ("or", 5), I(2), ("and", 2), L("x"), U, ("truth",), ("truth",)))):
            self.assertEqual(ops(("let", word, e)), expected + (("let", word),))
        for word, of_int, of_byte in (("sum", ("great",), ()), ("less", ("great",), ()), ("times", ("great",), ()),
                                      ("share", ("share", "great"), ("share",)), ("rest", ("share",), ("share",))):
            self.assertEqual(ops(("give", (word, I(1), I(2)))), (I(1), I(2)) + checks(*of_int) + ((word, INT), ("give",)))
            self.assertEqual(ops(("let", "b", (word, ("byte", 1), ("byte", 2)))),
                             (("byte", 1), ("byte", 2)) + checks(*of_byte) + ((word, BYTE), ("let", "b")))

    def test_instructions(self):
        for statement, expected in (
                (("store", S, I(1)), (S, I(1)) + checks("null", "gone", "beyond", "kind") + (("store",),)),
                (("make", "p", INT, I(3)), (I(3),) + checks("great") + (("make", "p", INT),)),
                (("away", L("p")), (L("p"), U) + checks("gone", "away") + (("away",),)),
                (("ask", "x", -1, 2), (("ask", "x", -1, 2),)), (("give", I(0)), (I(0), ("give",))),
                (("call", "x", "f", (I(1), S)), (I(1), S) + checks("deep") + (("call", "x", "f"),)),
                (("call", "", "g", ()), checks("deep") + (("call", "", "g"),)), (("return",), (("return",),)),
                (("take", "k"), checks("lock") + (("take", "k"),)), (("leave", "l"), checks("lock") + (("leave", "l"),)),
                (("if", I(1), (), ()), (I(1), ("test",))), (("while", L("x"), ()), (L("x"), U, ("test",)))):
            self.assertEqual(ops(statement), expected)
        self.assertEqual(ops(("return", L("x")), result=INT), (L("x"), U, ("return",)))


class Codes(unittest.TestCase):
    def test_lines_of_a_program(self):
        a, b, c = (("give", I(n)) for n in range(3))
        made = code_of(program((("if", I(8), (a,), ()), ("while", I(9), (b, ("return",))), c)))
        row = lambda n: (I(n), ("give",))
        # The todos: whole; a ..; the loop ..; b ..; c; return ..; ().
        self.assertEqual(made.lines, ((((I(8), ("test",)), (1, 2)), (row(0), (2,)), ((I(9), ("test",)), (3, 4)),
                                       (row(1), (5,)), (row(2), (6,)), ((("return",),), ())),))
        self.assertEqual(instruction_of(made, 0, 0), ("test", I(8)))
        self.assertEqual(instruction_of(code=made, function=0, position=3), b)
        self.assertEqual(made.head, ((), (), (("main", (), (), (), "none"),), ("main",)))
        self.assertEqual((made.shared, made.locks, made.functions, made.threads), made.head)
        self.assertEqual(code_of(program(())).lines, ((),))

    def test_equality(self):
        for made in programs(20):
            self.assertEqual(code_of(made), code_of(program=made))
            one = code_of(made)
            self.assertEqual(Code(one.head, one.lines), one)
            self.assertNotEqual(one, made)
            self.assertNotEqual(one, (one.head, one.lines))
            if checks_of(one):
                self.assertNotEqual(without(one, checks_of(one)[:1]), one)

    def test_checks_left_out(self):
        made = code(("give", ("and", ("at", S), ("or", L("x"), ("at", ("local", "p"))))))
        every = [(0, 0, spot) for spot, op in enumerate(made.lines[0][0][0]) if op[0] == "check"]
        self.assertEqual(checks_of(made), every)
        self.assertEqual(len(every), 12)
        bare = without(made, every)
        self.assertEqual(bare.lines[0][0], ((S, ("at",), ("and", 5), L("x"), ("or", 2), L("p"), ("at",), ("truth",),
                                             ("truth",), ("give",)), (1,)))
        self.assertEqual(full(bare), made)
        self.assertEqual(checks_of(bare), [])
        dice = random.Random(5)
        for made in programs(40):
            one = code_of(made)
            rows = checks_of(one)
            self.assertEqual(rows, sorted(rows))
            some = [name for name in rows if dice.random() < 0.5]
            less = without(code=one, some=tuple(some))
            self.assertEqual(full(code=less), one)
            self.assertEqual(len(checks_of(less)), len(rows) - len(some))
            self.assertEqual(Code(less.head, less.lines), less)
            left = [name for name in checks_of(less) if dice.random() < 0.5]
            self.assertEqual(full(without(less, left)), one)
            for number in range(len(one.lines)):
                for position in range(len(one.lines[number])):
                    self.assertEqual(instruction_of(less, number, position), instruction_of(one, number, position))

    def test_wrong_heads(self):
        head = code(("give", I(1))).head
        for thing in (None, (), list(head), head[:3], head + ((),), (head[0], head[1], list(head[2]), head[3]),
                      (head[0], head[1], head[2][:1] + (None,), head[3]), (head[0], ("l", "k"), head[2], head[3]),
                      (head[0], head[1], (head[2][0] + ((),),) + head[2][1:], head[3]), head[:3] + (("f",),)):
            with self.assertRaises(BadCode) as caught:
                Code(thing, None)
            self.assertEqual(caught.exception.at, "head")
            with self.assertRaises(BadCode) as caught:
                code_of_bytes(thing, None)
            self.assertEqual(caught.exception.at, "head")

    def test_wrong_lines(self):
        made = code(("give", I(1)))
        lines = made.lines
        for thing in (None, (), list(lines), lines + ((),), lines[:1], ([],) + lines[1:], (None,) + lines[1:]):
            with self.assertRaises(BadCode) as caught:
                Code(made.head, thing)
            self.assertEqual(caught.exception.at, "lines")

    def test_400_and_401_lines(self):
        made = code(("give", I(1)))
        line = made.lines[0][0]
        for many in (400, 401):
            lines = (((line[0], (many,)),) * many,) + made.lines[1:]
            if many == 400:
                self.assertEqual(Code(made.head, lines).lines, lines)
            else:
                with self.assertRaises(BadCode) as caught:
                    Code(made.head, lines)
                self.assertEqual(caught.exception.at, "lines")

    def line(self, ops, goals=(1,), result=None):
        """Where a code with this as its second function's first line is wrong."""
        made = code(("give", I(1)))
        heads = made.head[2]
        if result is not None:
            heads = (heads[0][:4] + (result,),) + heads[1:]
        one = Code(made.head[:2] + (heads,) + made.head[3:], ((), (), ()))
        lines = (((ops, goals), ((("return",),), ()) if result is None else ((I(1), ("return",)), ())), (), ())
        try:
            Code(one.head, lines)
        except BadCode as error:
            return error.at
        return None

    def test_no_lines(self):
        good = (S, I(1), ("check", "null"), ("check", "kind"), ("store",))
        self.assertIsNone(self.line(good))
        self.assertIsNone(self.line(good, (0,)))
        self.assertIsNone(self.line(good, (2,)))
        self.assertIsNone(self.line((I(1), ("test",)), (2, 0)))
        self.assertIsNone(self.line((L("x"), ("and", 1), L("x"), ("truth",), ("give",))))
        self.assertIsNone(self.line((L("x"), U, ("and", 2), L("x"), U, ("truth",), ("give",))))
        deep = (I(1),) + (("not",),) * 11
        self.assertIsNone(self.line(deep + (("give",),)))
        bad = [(None, (1,)), (list(good), (1,)), ((), (1,)), (good, [1]), (good, None), (good, ()), (good, (1, 1)), (good, (3,)),
               (good, (-1,)), (good, (True,)), (good, ("1",)), ((I(1), ("test",)), (1,)), ((("return",),), (1,)),
               ((I(1), ("return",)), ()), (good[:-1], (1,)), (good + (("store",),), (1,)), (good + (("check", "lock"),), (1,)),
               ((("check", "null"),) + good, (1,)), ((S, I(1), ("check", "kind"), ("check", "null"), ("store",)), (1,)),
               ((S, I(1), ("check", "null"), ("check", "null"), ("store",)), (1,)), ((S, I(1), ("check", "lock"), ("store",)), (1,)),
               ((S, I(True), ("store",)), (1,)), ((S, I(2 ** 31), ("store",)), (1,)), ((S, ("byte", 1), ("store",)), (1,)),
               (((("shared", "z")), I(1), ("store",)), (1,)), ((S, ("store",)), (1,)), ((("store",),), (1,)),
               ((L("x"), ("and", 2), L("x"), ("truth",), ("give",)), (1,)), ((L("x"), ("and", 0), L("x"), ("truth",), ("give",)), (1,)),
               ((L("x"), ("and", True), L("x"), ("truth",), ("give",)), (1,)), ((L("x"), ("and", 1), L("x"), ("give",)), (1,)),
               ((L("x"), L("x"), ("truth",), ("give",)), (1,)), ((I(1), ("and", 1), ("truth",), ("give",)), (1,)),
               ((I(1), I(2), ("sum", BYTE), ("give",)), (1,)), ((I(1), I(2), ("sum",), ("give",)), (1,)),
               ((I(1), I(2), ("sum", INT, 1), ("give",)), (1,)), ((I(1), ("make", "p", BYTE)), (1,)), ((I(1), ("make", "x", INT)), (1,)),
               ((("ask", "x", 2, 1),), (1,)), ((("ask", "b", 1, 2),), (1,)), ((I(1), ("call", "x", "f")), (1,)),
               ((I(1), S, ("call", "b", "f")), (1,)), ((("call", "", "z"),), (1,)), ((I(1), ("call", "", "g")), (1,)),
               ((("take", "z"),), (1,)), ((I(1), ("if",)), (1,)), ((I(1), ("if", ())), (1,)), ((I(1), ("while", ())), (1,)),
               (deep + (("not",), ("give",)), (1,)), ((I(1), 5), (1,)), ((I(1), ()), (1,)), ((I(1), (5,)), (1,)),
               ((I(1), ["give"]), (1,)), ((I(1), ("give", 1)), (1,)), ((I(1), I(2), ("give",)), (1,)), ((I(1),), (1,)),
               ((("int",), ("give",)), (1,)), ((("local", "x", 1), ("give",)), (1,)), ((("check",), I(1), ("give",)), (1,)),
               ((I(1), ("give",), I(1), ("give",)), (1,)), ((L("x"), U, U, ("give",)), (1,)), ((U, L("x"), ("give",)), (1,))]
        for ops_, goals in bad:
            self.assertEqual(self.line(ops_, goals), (0, 0), (ops_, goals))
        self.assertEqual(self.line((("return",),), (), INT), (0, 0))
        self.assertIsNone(self.line((I(1), ("return",)), (), INT))
        made = code(("give", I(1)))
        for thing in (None, (), [made.lines[0][0]], made.lines[0][0] + (1,), list(made.lines[0][0])):
            with self.assertRaises(BadCode) as caught:
                Code(made.head, ((made.lines[0][0], thing),) + made.lines[1:])
            self.assertEqual(caught.exception.at, (0, 1))
        with self.assertRaises(BadCode) as caught:
            Code(made.head, (made.lines[0], ((("give",), (0,)),), ((), None)))
        self.assertEqual(caught.exception.at, (1, 0))

    def test_300_and_301_nodes(self):
        def wide(many):
            """An expression of so many leaves, not deep, and its nodes."""
            if many == 1:
                return I(1)
            return ("same", wide(many // 2), wide(many - many // 2))

        # 150 leaves are 299 nodes; with the statement 300.
        self.assertIsNotNone(code_of(program((("give", wide(150)),))))
        line = list(code_of(program((("give", wide(150)),))).lines[0][0][0])
        self.assertIsNone(self.line(tuple(line)))
        self.assertEqual(self.line(tuple(line[:-1] + [("not",)] + line[-1:])), (0, 0))

    def test_refusals(self):
        made = code(("give", L("x")))
        for wrong in (None, 1, made.lines, program(())):
            for call in (lambda: instruction_of(wrong, None, None), lambda: checks_of(wrong), lambda: without(wrong, None),
                         lambda: full(wrong), lambda: code_bytes(wrong)):
                with self.assertRaises(BadCode) as caught:
                    call()
                self.assertIsNone(caught.exception.at)
        for wrong in (None, made, tree_of(program(()))):
            with self.assertRaises(BadTree):
                code_of(wrong)
        for function, position, part in ((3, None, "function"), (-1, 0, "function"), (False, 0, "function"), (None, 9, "function"),
                                         (0, 1, "position"), (0, -1, "position"), (0, False, "position"), (1, 0, "position")):
            with self.assertRaises(BadNumber) as caught:
                instruction_of(made, function, position)
            self.assertEqual(caught.exception.part, part)
        self.assertEqual(checks_of(made), [(0, 0, 1)])
        for some in (None, 1, (0, 0, 1), [(0, 0, 1), (0, 0, 1)], [(0, 0, 0)], [[0, 0, 1]], [(0, False, 1)], [(0, 0, True)], [None],
                     [(0, 0)], {}):
            with self.assertRaises(BadCheck):
                without(made, some)
        some = [(0, 0, 1)]
        self.assertEqual(checks_of(without(made, some)), [])
        self.assertEqual((some, checks_of(made)), ([(0, 0, 1)], [(0, 0, 1)]))


class Bytes(unittest.TestCase):
    def test_by_hand(self):
        made = code(("call", "x", "f", (("sum", I(-2), ("wide", L("b"))), S)), ("make", "p", INT, I(258)))
        self.assertEqual(code_bytes(made), (
            2, 0,
            9, 0, 1, 254, 255, 255, 255, 4, 1, 0, 0, 17, 0, 6, 12, 0, 5, 0, 0, 9, 30, 0, 1, 1, 0,
            3, 0, 1, 2, 1, 0, 0, 0, 6, 25, 2, 0, 2, 0,
            0, 0, 0, 0))
        rows = (("take", "l"), ("call", "", "g", ()), ("give", ("and", I(1), I(2))), ("let", "b", ("byte", 200)),
                ("let", "q", M), ("ask", "x", -1, 1), ("let", "p", ("null", INT)), ("away", ("null", ("to", "byte"))), ("return",))
        expected = ((2, 0, 0, 10, 32, 1, 1, 0), (2, 0, 0, 9, 30, 255, 2, 2, 0),
                    (5, 0, 1, 1, 0, 0, 0, 20, 1, 0, 1, 2, 0, 0, 0, 22, 28, 3, 0), (2, 0, 2, 200, 23, 1, 4, 0),
                    (2, 0, 6, 0, 23, 3, 5, 0), (1, 0, 27, 0, 255, 255, 255, 255, 1, 0, 0, 0, 6, 0), (2, 0, 3, 0, 23, 2, 7, 0),
                    (4, 0, 3, 3, 0, 2, 0, 8, 26, 8, 0), (1, 0, 31))
        self.assertEqual(code_bytes(code=code(*rows)), (9, 0) + sum(expected, ()) + (0, 0, 0, 0))
        self.assertEqual(code_bytes(code_of(program((("while", I(1), ()),)))), (1, 0, 2, 0, 1, 1, 0, 0, 0, 29, 0, 0, 1, 0))

    def test_there_and_back(self):
        dice = random.Random(3)
        for made in programs(40):
            one = code_of(made)
            less = without(one, [name for name in checks_of(one) if dice.random() < 0.5])
            for some in (one, less):
                row = code_bytes(some)
                self.assertIsInstance(row, tuple)
                self.assertEqual(code_of_bytes(some.head, row), some)
                self.assertEqual(code_of_bytes(head=some.head, thing=list(row)), some)

    def test_wrong_rows(self):
        dice = random.Random(9)
        for made in programs(12):
            one = code_of(made)
            row = list(code_bytes(one))
            for thing in (None, 1, "x", {}, row + [0], row[:-1], [True] + row[1:], row[:-1] + [256], row[:-1] + [-1], [row]):
                with self.assertRaises(BadBytes) as caught:
                    code_of_bytes(one.head, thing)
                self.assertIsNone(caught.exception.at)
            for _ in range(200):
                place = dice.randrange(len(row))
                other = row[:place] + [dice.randrange(256)] + row[place + 1:]
                try:
                    found = code_of_bytes(one.head, other)
                except BadBytes:
                    continue
                self.assertEqual(list(code_bytes(found)), other)


if __name__ == "__main__":
    unittest.main()
