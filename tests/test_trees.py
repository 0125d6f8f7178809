"""Points 20 to 24: trees, programs, places of what is wrong."""

import unittest

from made import I, L, Maker, program, programs
from firstwrong.errors import BadNumber, BadTree
from firstwrong.trees import Program, is_tree, nodes, pieces, tree_of

INT, BYTE, P, Q, PP = "int", "byte", ("to", "int"), ("to", "byte"), ("to", ("to", "int"))
WORDS = ("local", "shared", "block")


class Odd:
    __hash__ = None

    def __eq__(self, other):
        return True


def one(body, **more):
    """A tree whose first function is f with such a body."""
    parts = {"shared": (), "locks": (), "params": (), "locals_": (("x", INT),), "blocks": (), "result": "none",
             "others": (), "threads": ()}
    parts.update(more)
    head = ("f", parts["params"], parts["locals_"], parts["blocks"], parts["result"], body)
    return (parts["shared"], parts["locks"], (head,) + parts["others"], parts["threads"])


def at(tree):
    """Where a tree is wrong; "let" if it is not."""
    try:
        Program(tree)
    except BadTree as error:
        return error.at
    return "let"


def places(thing, place=()):
    """The places of all pieces; what stands within a sort is none, nor is the word of a node."""
    yield place
    if isinstance(thing, tuple) and not (thing[:1] == ("to",)):
        node = len(place) > 3 and place[2] == 5 and thing != () and isinstance(thing[0], str)
        for number, part in enumerate(thing):
            if not node or number > 0:
                yield from places(part, place + (number,))


def put(thing, place, other):
    if place == ():
        return other
    parts = list(thing)
    parts[place[0]] = put(parts[place[0]], place[1:], other)
    return tuple(parts)


def get(thing, place):
    for number in place:
        thing = thing[number]
    return thing


LOCALS = (("x", INT), ("b", BYTE), ("p", P), ("q", Q), ("r", PP))
MORE = {"shared": (("s", INT, 2),), "locks": ("k",), "locals_": LOCALS, "blocks": (("m", BYTE, 2),),
        "others": (("g", (("a", INT), ("c", P)), (), (), P, (("return", L("c")),)), ("h", (), (), (), "none", ()))}


class Trees(unittest.TestCase):
    def check(self, tree, place):
        self.assertEqual(at(tree), place)
        self.assertIs(is_tree(tree), place == "let")

    def test_examples_by_hand(self):
        self.check((None, (), (), ()), (0,))
        self.check(((("a", "int", 1), ("a", "int", 1)), (), (), ()), (0, 1, 0))
        self.check(((), (), (("f", (), (("x", "int"),), (), "none", (("let", "x", ("byte", 3)),)),), ()),
                   (2, 0, 5, 0, 2))
        give = ("give", ("sum", ("local", "y"), ("byte", 0)))
        self.check(((), (), (("f", (), (("x", "int"),), (), "none", (give,)),), ()), (2, 0, 5, 0, 1, 1, 1))
        give = ("give", ("sum", ("local", "x"), ("byte", 0)))
        self.check(((), (), (("f", (), (("x", "int"),), (), "none", (give,)),), ()), (2, 0, 5, 0, 1, 2))

    def test_any_value(self):
        for thing in (None, 1, True, "x", [], {}, (), ((), (), ()), ((), (), (), (), ()), [(), (), (), ()], Odd(), b""):
            self.check(thing, ())
        self.check(((), (), (), ()), "let")
        for number in range(4):
            for thing in ([], None, 0, "", {}, Odd()):
                self.check(put(((), (), (), ()), (number,), thing), (number,))

    def test_shared(self):
        rows = tuple((w, INT, 1) for w in "abcdefgh")
        self.check((rows, (), (), ()), "let")
        self.check((rows + (("i", INT, 1),), (), (), ()), (0,))
        for row, place in ((("a", INT), ()), (["a", INT, 1], ()), (("a", INT, 1, 1), ()), (("A", INT, 1), (0,)),
                           (("", INT, 1), (0,)), (("abcdefghijklm", INT, 1), (0,)), ((1, INT, 1), (0,)),
                           (("a1", INT, 1), (0,)), (("\xe4", INT, 1), (0,)), (("a", "none", 1), (1,)),
                           (("a", PP, 1), (1,)), (("a", None, 1), (1,)), (("a", INT, 0), (2,)), (("a", INT, 17), (2,)),
                           (("a", INT, True), (2,)), (("a", INT, 1.0), (2,))):
            self.check(((row,), (), (), ()), (0, 0) + place)
        for row in (("abcdefghijkl", INT, 1), ("a", P, 16), ("a", Q, 1), ("a", BYTE, 2)):
            self.check(((row,), (), (), ()), "let")
        self.check(((("b", INT, 1), ("a", INT, 1)), (), (), ()), (0, 1, 0))

    def test_locks(self):
        self.check(((), ("a", "b", "c", "d"), (), ()), "let")
        self.check(((), ("a", "b", "c", "d", "e"), (), ()), (1,))
        for locks, place in ((("b", "a"), 1), (("a", "a"), 1), (("a", 1), 1), (("A",), 0)):
            self.check(((), locks, (), ()), (1, place))

    def test_heads(self):
        rows = tuple((w, (), (), (), "none", ()) for w in "lkjihgfedcba")
        self.check(((), (), rows, ()), "let")
        self.check(((), (), rows + (("m", (), (), (), "none", ()),), ()), (2,))
        self.check(((), (), rows[:2] + rows[:1], ()), (2, 2, 0))
        good = ("f", (("a", INT),), (("b", BYTE),), (("c", INT, 8),), "none", ())
        for place, thing in (((), good[:5]), ((), good + ((),)), ((0,), "F"), ((1,), [("a", INT)]),
                             ((1, 0), ("a",)), ((1, 0), ["a", INT]), ((1, 0, 0), "a b"), ((1, 0, 1), "none"),
                             ((1, 0, 1), ("to", PP)), ((2, 0, 0), "a"), ((3, 0, 0), "a"), ((3, 0, 0), "b"),
                             ((3, 0), ("c", INT)), ((3, 0, 1), PP), ((3, 0, 2), 9), ((3, 0, 2), 0),
                             ((3, 0, 2), True), ((4,), None), ((4,), "void"), ((4,), ("to", PP)), ((5,), []),
                             ((5,), None)):
            self.check(((), (), (put(good, place, thing),), ()), (2, 0) + place)
        for place, thing in (((1, 0, 1), PP), ((4,), PP), ((4,), INT)):
            tree = ((), (), (put(good, place, thing),), ())
            self.check(tree, "let")
        for most, place in ((6, 1), (8, 2)):
            rows = tuple(("x" + "abcdefghi"[n], INT) for n in range(most))
            self.check(((), (), (put(good, (place,), rows),), ()), "let")
            self.check(((), (), (put(good, (place,), rows + (("y", INT),)),), ()), (2, 0, place))
            self.check(((), (), (put(good, (place,), rows[:2] + rows[:1]),), ()), (2, 0, place, 2, 0))
        rows = (("x", INT, 1), ("y", INT, 8), ("z", P, 1))
        self.check(((), (), (put(good, (3,), rows),), ()), "let")
        self.check(((), (), (put(good, (3,), rows + (("v", INT, 1),)),), ()), (2, 0, 3))

    def test_threads(self):
        rows = (("f", (), (), (), INT, (("return", I(1)),)), ("g", (("a", INT),), (), (), "none", ()))
        self.check(((), (), rows, ("f",) * 4), "let")
        self.check(((), (), rows, ("f",) * 5), (3,))
        for thing in ("g", "h", 1, None, ["f"], Odd()):
            self.check(((), (), rows, ("f", thing)), (3, 1))

    def test_sequence(self):
        """What is judged first counts: all heads ahead of all bodies, these ahead of threads."""
        bad = ("f", (), (), (), "none", (("give", I(None)),))
        tree = ((("a", INT, 0),), (1,), (bad, ("G", (), (), (), "none", ())), ("x",))
        for place in ((0, 0, 2), (1, 0), (2, 1, 0), (2, 0, 5, 0, 1, 1), (3, 0)):
            self.check(tree, place)
            good = {(0, 0, 2): 1, (1, 0): "k", (2, 1, 0): "g", (2, 0, 5, 0, 1, 1): 5, (3, 0): "f"}[place]
            tree = put(tree, place, good)
        self.check(tree, "let")

    def test_statements(self):
        good = (("let", "x", I(1)), ("let", "r", ("null", P)), ("store", L("p"), I(3)), ("store", L("r"), L("p")),
                ("make", "p", INT, I(3)), ("make", "r", P, I(1)), ("away", L("q")), ("away", L("r")),
                ("ask", "x", 1, 1), ("ask", "x", -(2 ** 31), 2 ** 31 - 1), ("give", I(0)), ("if", I(1), (), ()),
                ("while", I(1), (("give", I(1)),)), ("call", "p", "g", (I(1), L("p"))), ("call", "", "g", (I(1), L("p"))),
                ("call", "", "h", ()), ("return",), ("take", "k"), ("leave", "k"))
        self.check(one(good, **MORE), "let")
        bad = ((("let", "x"), ()), (("let", "x", I(1), I(1)), ()), (["give", I(1)], ()), ((), ()), ((1,), ()), (None, ()),
               (("test", I(1)), ()), (("let", "y", I(1)), (1,)), (("let", "s", I(1)), (1,)), (("let", "", I(1)), (1,)),
               (("let", "x", ("byte", 1)), (2,)), (("store", L("x"), I(1)), (1,)), (("store", L("p"), L("b")), (2,)),
               (("store", L("r"), I(1)), (2,)), (("make", "x", INT, I(1)), (1,)), (("make", "z", INT, I(1)), (1,)),
               (("make", "p", BYTE, I(1)), (2,)), (("make", "r", PP, I(1)), (2,)), (("make", "p", None, I(1)), (2,)),
               (("make", "p", INT, L("b")), (3,)), (("away", I(1)), (1,)), (("ask", "b", 0, 1), (1,)),
               (("ask", "x", 0.5, 1), (2,)), (("ask", "x", True, 1), (2,)), (("ask", "x", 2, 1), (3,)),
               (("ask", "x", 2 ** 31, 2 ** 31), (2,)), (("ask", "x", 0, 2 ** 31), (3,)), (("ask", "x", 0, True), (3,)),
               (("give", L("b")), (1,)), (("give", L("p")), (1,)), (("if", I(1), ()), ()), (("if", L("p"), (), ()), (1,)),
               (("if", I(1), [], ()), (2,)), (("if", I(1), (), None), (3,)), (("if", I(1), ((),), ()), (2, 0)),
               (("while", I(1)), ()), (("while", L("b"), ()), (1,)), (("while", I(1), (("give",),)), (2, 0)),
               (("call", "z", "g", (I(1), L("p"))), (1,)), (("call", None, "g", (I(1), L("p"))), (1,)),
               (("call", "p", "z", ()), (2,)), (("call", "p", "g", (I(1),)), (3,)), (("call", "p", "g", [I(1), L("p")]), (3,)),
               (("call", "p", "g", (I(1), I(2))), (3, 1)), (("call", "x", "g", (I(1), L("p"))), ()),
               (("call", "x", "g", (I(1), I(2))), (3, 1)), (("call", "x", "h", ()), ()), (("return", I(1)), ()),
               (("take", "l"), (1,)), (("leave", None), (1,)), (("take",), ()), (("take", "k", "k"), ()))
        for statement, place in bad:
            self.check(one((("give", I(0)), statement), **MORE), (2, 0, 5, 1) + place)
        self.check(one((("return", I(1)),), result=INT), "let")
        self.check(one((("return",),), result=INT), (2, 0, 5, 0))
        self.check(one((("return", ("byte", 1)),), result=INT), (2, 0, 5, 0, 1))

    def test_expressions(self):
        s, m = ("shared", "s"), ("block", "m")
        good = {INT: (I(-(2 ** 31)), L("x"), ("at", s), ("at", ("at", L("r"))), ("gap", s, L("p")), ("same", m, L("q")),
                      ("same", L("b"), L("b")), ("below", L("r"), L("r")), ("below", I(1), I(2)), ("sum", I(1), L("x")),
                      ("wide", L("b")), ("not", I(1)), ("and", I(1), I(0)), ("or", I(1), I(0))),
                BYTE: (("byte", 255), ("at", m), ("low", I(300)), ("rest", L("b"), L("b")), ("less", L("b"), L("b"))),
                P: (("null", INT), s, ("at", L("r")), ("on", s, I(1))), Q: (m, ("null", BYTE)), PP: (("null", P), L("r"))}
        target = {INT: "x", BYTE: "b", P: "p", Q: "q", PP: "r"}
        for sort, rows in good.items():
            for e in rows:
                for other, word in target.items():
                    self.check(one((("let", word, e),), **MORE), "let" if sort == other else (2, 0, 5, 0, 2))
        bad = ((("int", 2 ** 31), (1,)), (("int", True), (1,)), (("int",), ()), (("int", 1, 2), ()), (["int", 1], ()),
               (("byte", 256), (1,)), (("byte", -1), (1,)), (("byte", False), (1,)), (("null", PP), (1,)), (("null", 1), (1,)),
               (("local", "s"), (1,)), (("shared", "x"), (1,)), (("block", "s"), (1,)), (("local", ["x"]), (1,)),
               (("let", "x", I(1)), ()), (("add", I(1), I(1)), ()), ((), ()), ((0,), ()), (None, ()), (Odd(), ()),
               ((Odd(), I(1)), ()), (("at", I(1)), (1,)), (("on", L("x"), I(1)), (1,)), (("on", L("p"), L("b")), (2,)),
               (("gap", L("p"), L("q")), (2,)), (("gap", I(1), I(1)), (1,)), (("same", I(1), L("b")), (2,)),
               (("below", L("p"), L("r")), (2,)), (("sum", L("p"), I(1)), (1,)), (("sum", L("b"), I(1)), (2,)),
               (("times", I(1), L("p")), (2,)), (("share", I(1)), ()), (("rest", I(1), I(1), I(1)), ()), (("wide", I(1)), (1,)),
               (("low", L("b")), (1,)), (("not", L("b")), (1,)), (("and", I(1), L("p")), (2,)), (("or", L("p"), I(1)), (1,)),
               (("truth", I(1)), ()))
        for e, place in bad:
            self.check(one((("give", e),), **MORE), (2, 0, 5, 0, 1) + place)

    def test_depths(self):
        deep = I(1)
        for _ in range(11):
            deep = ("not", deep)
        self.check(one((("give", deep), ("give", deep))), "let")
        self.check(one((("give", ("not", deep)),)), (2, 0, 5, 0) + (1,) * 13)
        both = deep
        self.check(one((("give", ("and", I(1), both)),)), (2, 0, 5, 0, 1, 2) + (1,) * 11)
        body = (("give", I(1)),)
        for _ in range(5):
            body = (("while", I(1), body),)
        self.check(one(body), "let")
        self.check(one((("if", I(1), (), body),)), (2, 0, 5, 0, 3) + (0, 2) * 5)
        deepest = ()
        for _ in range(6):
            deepest = (("while", I(1), deepest),)
        self.check(one(deepest), (2, 0, 5) + (0, 2) * 6)

    def test_nodes(self):
        body = (("give", I(1)),) * 150
        self.check(one(body), "let")
        self.assertEqual(nodes(Program(one(body)), 0), 300)
        self.check(one(body + (("return",),)), (2, 0, 5, 150))
        self.check(one((("return",),) + body), (2, 0, 5, 150, 1))
        self.check(one((("if", I(1), body[:100], body[:49]),)), "let")
        self.check(one((("if", I(1), body[:100], body[:50]),)), (2, 0, 5, 0, 3, 49))

    def test_each_piece_wrong(self):
        """Any piece put as what it cannot be is the first wrong one."""
        for seed in range(25):
            tree = tree_of(Maker(seed).program())
            for place in places(tree):
                piece = get(tree, place)
                for other in (None, True, list(piece) if isinstance(piece, tuple) else [piece], Odd(), -(2 ** 40), "A"):
                    with self.subTest(seed=seed, place=place, other=other):
                        self.assertEqual(at(put(tree, place, other)), place)


class Programs(unittest.TestCase):
    def test_attributes_and_equality(self):
        for seed in range(20):
            first, second = Maker(seed).program(), Maker(seed).program()
            self.assertEqual(first, second)
            self.assertEqual(tree_of(first), (first.shared, first.locks, first.functions, first.threads))
            self.assertEqual(Program(tree_of(first)), first)
            self.assertNotEqual(first, tree_of(first))
            self.assertNotEqual(first, None)
            self.assertNotEqual(first, Maker(seed + 100).program())

    def test_pieces(self):
        body = (("if", ("and", I(1), I(2)), (("give", I(3)),), (("store", L("p"), ("at", L("p"))),)),
                ("call", "p", "g", (I(4), L("p"))), ("make", "p", INT, I(5)), ("take", "k"), ("return",))
        made = Program(one(body, **MORE))
        expected = [(0,), (0, 1), (0, 1, 1), (0, 1, 2), (0, 2, 0), (0, 2, 0, 1), (0, 3, 0), (0, 3, 0, 1), (0, 3, 0, 2),
                    (0, 3, 0, 2, 1), (1,), (1, 3, 0), (1, 3, 1), (2,), (2, 3), (3,), (4,)]
        self.assertEqual(pieces(made, 0), [(place, get(body, place)) for place in expected])
        self.assertEqual(pieces(program=made, function=2), [])
        self.assertEqual(pieces(Program(one((("give", I(7)),))), 0)[1], ((0, 1), I(7)))
        for made in programs(20):
            for number in range(len(made.functions)):
                rows = pieces(made, number)
                self.assertEqual(nodes(made, number), len(rows))
                self.assertTrue(all(get(made.functions[number][5], place) == piece for place, piece in rows))
                self.assertEqual([p for p, _ in rows], sorted(p for p, _ in rows))

    def test_refusals(self):
        made = Maker(1).program()
        for wrong in (None, tree_of(made), 1):
            for call in (lambda: tree_of(wrong), lambda: pieces(wrong, None), lambda: nodes(wrong, 99)):
                with self.assertRaises(BadTree) as caught:
                    call()
                self.assertIsNone(caught.exception.at)
        for number in (-1, len(made.functions), True, False, None, "main", 0.0):
            for call in (pieces, nodes):
                with self.assertRaises(BadNumber) as caught:
                    call(made, number)
                self.assertEqual(caught.exception.part, "function")
        self.assertIsNot(pieces(made, 0), pieces(made, 0))

    def test_todos(self):
        a, b, c, d = (("give", I(n)) for n in range(4))
        loop = ("while", I(9), (c,))
        fork = ("if", I(8), (a, b), ())
        self.assertEqual(program((fork, loop, d)).todos, (
            ((fork, loop, d), (a, b, loop, d), (loop, d), (b, loop, d), (c, loop, d), (d,), ()),))
        self.assertEqual(program((("return",),)).todos, (((("return",),),),))
        self.assertEqual(program(()).todos, (((),),))
        self.assertEqual(program((("while", I(1), ()),)).todos, (((("while", I(1), ()),), ()),))
        self.assertEqual(program((("return",), a)).todos, (((("return",), a),),))


if __name__ == "__main__":
    unittest.main()
