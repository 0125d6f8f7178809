"""Points 82, 83, 84 and 87: causes of what is seen, and of wrong deeds."""

import random
import unittest

from akin import all_sights, exchanged, moments_of
from made import I, L, all_runs, branching_runs, by_words, program, runs, weaving_of
from plainflows import PlainFlows
from firstwrong.causes import causes_of, is_copying, wrong_causes
from firstwrong.errors import BadInputs, BadMoment, BadNumber, BadSight, BadTree, NotNow, TooMany
from firstwrong.moments import Moment, begun
from firstwrong.sights import seen_at
from firstwrong.sources import sources_of, unlike_sources
from firstwrong.steps import run
from firstwrong.values import NULL

P = ("to", "int")
X, Y, Q = L("x"), L("y"), L("p")
S = ("shared", "s")
ROWS = (("x", "int"), ("y", "int"), ("p", P), ("q", P))


def cell(slot, offset=0, life=1):
    return ("cell", slot, life, offset)


def local(word, thread=0, depth=1):
    return ("local", thread, depth, word)


def asks(number):
    return ("input", number)


def causes(made, inputs, weaving, sight):
    return causes_of(begun(made), inputs, weaving, sight)


def one(*body, **more):
    """A program of one thread over x, y, p, q, a shared s of two ints, a lock and a function."""
    more.setdefault("locks", ("k",))
    more.setdefault("more", (("f", (("a", "int"),), (("b", "int"),), (("n", "int", 1),), "int", (("return", L("a")),)),
                             ("g", (), (), (), "int", ())))
    return program(body, ROWS, (("s", "int", 2), ("t", P, 1)), **more)


def steps(made, many):
    return [0] * many


class Flows(unittest.TestCase):
    """Point 82, by hand; slots 0 and 1 are shared."""

    def told(self, made, inputs, many, *rows):
        for sight, sources in rows:
            self.assertEqual(causes(made, inputs, [0] * many, sight), tuple(sorted(sources)), sight)

    def test_at_the_start(self):
        made = one(("give", I(1)), blocks=(("m", "int", 1),))
        self.told(made, [1], 0, (cell(0), [cell(0)]), (cell(0, 1), [cell(0, 1)]), (cell(1), [cell(1)]), (cell(2), [cell(2)]),
                  (cell(9), []), (cell(0, 2), []), (local("x"), [local("x")]), (local("p"), [local("p")]), (("name", 0, 1, "m"), []),
                  (local("z"), []), (local("x", 0, 2), []), (("free",), []), (("lock", "k"), []), (("asked",), []),
                  (("given",), []), (("given", 0), []), (("wrong",), []), (("way", 0), []), (("block", 0, 1), []))

    def test_let_ask_give(self):
        made = one(("ask", "x", 0, 9), ("let", "y", ("sum", X, ("at", S))), ("ask", "x", 0, 9), ("give", Y), ("give", X), ("let", "y", I(3)))
        self.told(made, [1, 2, 3], 1, (local("x"), [asks(0)]), (local("y"), [local("y")]), (("asked",), []))
        self.told(made, [1, 2, 3], 2, (local("y"), [asks(0), cell(0)]), (local("x"), [asks(0)]))
        self.told(made, [1, 2, 3], 5, (local("x"), [asks(1)]), (("given", 0), [asks(0), cell(0)]), (("given", 1), [asks(1)]),
                  (("given",), [asks(0), asks(1), cell(0)]), (("given", 2), []), (cell(0), [cell(0)]))
        self.told(made, [1, 2, 3], 6, (local("y"), []))

    def test_given_ahead_has_none(self):
        made = one(("give", I(3)))
        moment = Moment(made, begun(made).lives, begun(made).memory, (None,), begun(made).stacks, 4, (8, 9), None)
        self.assertEqual(causes_of(moment, [], [0], ("given", 1)), ())
        self.assertEqual(causes_of(moment, [], [0], ("given", 2)), ())

    def test_expressions(self):
        on = ("on", S, X)
        made = one(("ask", "x", 0, 1), ("ask", "y", 0, 1), ("let", "x", ("and", X, Y)))
        self.told(made, [0, 1], 3, (local("x"), [asks(0)]))
        self.told(made, [1, 1], 3, (local("x"), [asks(0), asks(1)]))
        made = one(("ask", "x", 0, 1), ("ask", "y", 0, 1), ("let", "x", ("or", X, Y)))
        self.told(made, [1, 1], 3, (local("x"), [asks(0)]))
        self.told(made, [0, 1], 3, (local("x"), [asks(0), asks(1)]))
        made = one(("ask", "x", 0, 1), ("let", "y", ("at", on)), ("store", ("shared", "t"), on), ("let", "p", ("at", ("shared", "t"))))
        self.told(made, [1], 2, (local("y"), [asks(0), cell(0, 1)]))
        self.told(made, [1], 4, (cell(1), [asks(0)]), (local("p"), [asks(0)]))

    def test_store_by_a_pointer(self):
        made = one(("ask", "x", 0, 1), ("let", "p", ("on", S, X)), ("let", "y", ("at", ("shared", "s"))), ("store", Q, Y))
        self.told(made, [0], 4, (cell(0), [asks(0), cell(0)]), (cell(0, 1), [asks(0), cell(0, 1)]), (cell(1), [cell(1)]))
        made = one(("ask", "x", 0, 9), ("store", S, X))
        self.told(made, [0], 2, (cell(0), [asks(0)]), (cell(0, 1), [cell(0, 1)]))

    def test_make(self):
        made = one(("ask", "x", 1, 2), ("make", "p", "int", X), ("store", Q, I(5)), ("let", "y", ("at", Q)), ("make", "q", "int", I(1)))
        self.told(made, [1], 2, (local("p"), []), (("block", 2, 1), [asks(0)]), (cell(2), [asks(0)]), (("free",), [asks(0)]),
                  (("block", 3, 1), []))
        self.told(made, [1], 4, (cell(2), [asks(0)]), (local("y"), [asks(0)]))
        # The shape of slot 2 might be otherwise, so the second block, and all slots behind, hang on it.
        self.told(made, [1], 5, (local("q"), [asks(0)]), (("block", 3, 1), [asks(0)]), (("block", 9, 1), [asks(0)]), (local("p"), []))

    def test_make_without_a_free_slot(self):
        made = one(("make", "p", "int", I(1)), ("make", "q", "int", I(1)))
        start = begun(made)
        memory = {**start.memory}
        for slot in range(2, 31):
            memory[slot] = ("made", "int", (1,))
        full = Moment(made, [1] * 31 + [2 ** 31 - 2], memory, (None,), start.stacks, 0, (), None)
        self.assertEqual(causes_of(full, [], [0], local("p")), ())
        self.assertEqual(causes_of(full, [], [0], ("free",)), ())

    def test_away(self):
        made = one(("make", "p", "int", I(1)), ("let", "q", ("null", "int")), ("ask", "x", 0, 1), ("if", X, (("let", "q", Q),), ()),
                   ("away", L("q")), ("make", "q", "int", I(1)))
        # The way not gone (input 0) might have put q.
        self.told(made, [0], 5, (("block", 2, 1), [asks(0)]), (("block", 0, 1), []), (("block", 1, 1), []), (("block", 31, 1), [asks(0)]),
                  (local("p"), [asks(0)]))

    def test_call_and_return(self):
        made = one(("ask", "x", 0, 9), ("call", "y", "f", (("sum", X, ("at", S)),)), ("call", "y", "g", ()))
        self.told(made, [2], 2, (local("a", 0, 2), [asks(0), cell(0)]), (local("b", 0, 2), []), (("name", 0, 2, "n"), []),
                  (cell(2), []), (local("y"), [local("y")]))
        self.told(made, [2], 3, (local("y"), [asks(0), cell(0)]), (local("a", 0, 2), []), (("name", 0, 2, "n"), []))
        self.told(made, [2], 5, (local("y"), []))

    def test_blocks_of_frames(self):
        more = (("f", (("a", "int"),), (("r", P),), (("n", "int", 1),), "int", (("let", "r", ("block", "n")), ("store", L("r"), I(2)),
                                                                              ("return", ("at", L("r"))))),)
        made = one(("ask", "x", 1, 2), ("make", "p", "int", X), ("call", "y", "f", (I(1),)), ("give", Y), more=more)
        self.told(made, [2], 4, (local("r", 0, 2), [asks(0)]))
        self.told(made, [2], 5, (cell(3), [asks(0)]), (cell(2), [asks(0)]), (cell(0), [asks(0), cell(0)]), (cell(1), [cell(1)]))
        self.told(made, [2], 6, (local("y"), [asks(0)]))

    def test_shapes_to_a_slot(self):
        made = one(("ask", "x", 1, 2), ("make", "q", "int", I(1)), ("make", "p", "int", X), ("away", L("q")), ("make", "q", "int", I(1)),
                   ("call", "y", "g", ()), ("call", "y", "f", (I(1),)))
        self.told(made, [2], 3, (("block", 3, 1), [asks(0)]), (("block", 2, 1), []), (("block", 4, 1), []))
        self.told(made, [2], 5, (local("q"), []), (("block", 2, 2), []), (("block", 4, 1), [asks(0)]))
        # A call of a function without blocks: no slot gains.
        made = one(("ask", "x", 1, 2), ("make", "p", "int", X), ("call", "y", "g", ()), ("call", "y", "f", (I(1),)), ("give", I(1)))
        self.told(made, [2], 4, (("block", 2, 1), [asks(0)]), (("block", 3, 1), []), (("block", 31, 1), []))
        self.told(made, [2], 5, (("block", 3, 1), [asks(0)]), (("block", 31, 1), [asks(0)]))

    def test_make_hangs_on_all_slots_if_none_is_free(self):
        made = one(("ask", "x", 1, 2), ("make", "p", "int", X), ("make", "q", "int", I(1)))
        start = begun(made)
        memory = {**start.memory, **{slot: ("made", "int", (1,)) for slot in range(2, 31)}}
        full = Moment(made, [1] * 31 + [0], memory, (None,), start.stacks, 0, (), None)
        self.assertEqual(causes_of(full, [1], [0, 0], local("p")), ())
        self.assertEqual(causes_of(full, [1], [0, 0, 0], local("q")), (asks(0),))
        self.assertEqual(run(full, [1], [0, 0, 0])[0][-1].stacks[0][0][2][3], NULL)

    def test_names_hang_on_the_slots(self):
        made = one(("ask", "x", 1, 2), ("make", "p", "int", X), ("call", "y", "f", (I(1),)), ("give", I(1)))
        self.told(made, [2], 3, (("name", 0, 2, "n"), [asks(0)]), (("block", 3, 1), [asks(0)]), (("block", 5, 1), [asks(0)]),
                  (("block", 2, 1), [asks(0)]), (("block", 1, 1), []))
        self.told(made, [2], 4, (local("y"), []))

    def test_locks(self):
        made = one(("take", "k"), ("leave", "k"))
        self.told(made, [], 1, (("lock", "k"), []))
        self.told(made, [], 2, (("lock", "k"), []))

    def test_first_values_of_frames_above(self):
        made = one(("call", "y", "f", (I(1),)), ("give", Y))
        moment = run(begun(made), [], [0])[0][1]
        self.assertEqual(causes_of(moment, [], [0], local("y")), (("local", 0, 2, "a"),))
        self.assertEqual(causes_of(moment, [], [0, 0], ("given", 0)), (("local", 0, 2, "a"),))


def split(inside, *behind, otherwise=(), **more):
    """A thread that does not go into an "if" that hangs on input 0."""
    return one(("ask", "x", 0, 1), ("if", X, inside, otherwise), *behind, **more)


class GhostsByHand(unittest.TestCase):
    """Point 83: what ways that were not gone may write."""

    def told(self, made, many, *rows, inputs=(0, 7, 7)):
        for sight, sources in rows:
            self.assertEqual(causes(made, list(inputs), [0] * many, sight), tuple(sorted(sources)), sight)

    def test_if(self):
        made = split((("let", "y", I(1)),), ("give", I(1)), ("give", I(2)), ("give", I(3)))
        self.told(made, 1, (("way", 0), []))
        # Once astray, all that is seen of the thread's frames hangs on the source.
        self.told(made, 2, (("way", 0), [asks(0)]), (local("y"), [asks(0), local("y")]), (("given",), []))
        self.told(made, 3, (local("y"), [asks(0), local("y")]), (("given", 0), [asks(0)]), (("given",), [asks(0)]), (cell(0), [cell(0)]))
        # The other way is one statement behind: it may be giving still.
        self.told(made, 5, (("given", 2), [asks(0)]), (("way", 0), [asks(0)]))

    def test_ways_that_meet_again(self):
        made = split((("give", I(1)),), ("give", I(3)), ("give", I(4)), otherwise=(("give", I(2)),))
        self.told(made, 2, (("way", 0), [asks(0)]))
        self.told(made, 3, (("way", 0), []), (("given", 0), [asks(0)]), (local("y"), [local("y")]))
        self.told(made, 4, (("given", 1), [asks(0)]), (("given",), [asks(0)]), (("asked",), []))

    def test_both_empty(self):
        made = split((), ("give", I(3)))
        self.told(made, 2, (("way", 0), []))
        self.told(made, 3, (("given", 0), []))

    def test_writes_of_a_way_not_gone(self):
        a_call = ("call", "y", "f", (I(1),))
        for statement, rows in (
                (("ask", "y", 0, 9), [(("asked",), [asks(0)]), (cell(0), [cell(0)]), (("free",), [])]),
                (("store", S, I(1)), [(cell(0), [asks(0), cell(0)]), (cell(0, 1), [cell(0, 1)])]),
                (("store", Q, I(1)), [(cell(0), [asks(0), cell(0)]), (cell(0, 1), [asks(0), cell(0, 1)]), (cell(1), [asks(0), cell(1)])]),
                (("store", ("null", "int"), I(1)), [(cell(0), [cell(0)]), (cell(1), [cell(1)])]),
                (("make", "p", "int", I(1)), [(("block", 2, 1), [asks(0)]), (("block", 0, 1), []), (("free",), [asks(0)])]),
                (("away", Q), [(("block", 2, 1), [asks(0)]), (("block", 1, 1), []), (("block", 31, 1), [asks(0)])]),
                (("give", I(1)), [(("given",), [asks(0)]), (("given", 0), [asks(0)])]),
                (("take", "k"), [(("lock", "k"), [asks(0)])]), (("leave", "k"), [(("lock", "k"), [asks(0)])]),
                (a_call, [(("free",), [asks(0)]), (("block", 2, 1), [asks(0)]), (("given",), [])]),
                (("call", "y", "g", ()), [(("free",), []), (cell(0), [cell(0)])]),
                (("return",), [(("free",), []), (cell(0), [cell(0)]), (("given",), [])])):
            made = split((statement,), ("let", "x", I(1)), ("let", "x", I(1)))
            self.told(made, 2, *[(sight, [source for source in sources if source != asks(0)]) for sight, sources in rows])
            self.told(made, 3, *rows)

    def test_local_of_a_way_not_gone(self):
        # Behind three steps both ways are one again; what the other one wrote stays.
        for statement in (("let", "y", I(1)), ("ask", "y", 0, 9), ("make", "p", "int", I(1))):
            made = split((statement,), ("let", "x", I(5)), otherwise=(("let", "x", I(2)),))
            self.told(made, 3, (local(statement[1]), [asks(0), local(statement[1])]), (("way", 0), []), (local("q"), [local("q")]),
                      (local("x"), [asks(0)]))
            self.told(made, 4, (local("x"), []))

    def test_call_not_gone(self):
        # The frame above hangs on the source, as its params and names do.
        made = split((("call", "y", "f", (I(1),)),), ("let", "x", I(3)), otherwise=(("call", "y", "f", (I(2),)),))
        self.told(made, 3, (local("a", 0, 2), [asks(0)]), (local("b", 0, 2), [asks(0)]), (("name", 0, 2, "n"), [asks(0)]))
        self.told(made, 4, (local("y"), [asks(0), ]), (("way", 0), []))

    def test_targets_of_ways_not_gone(self):
        # The other way calls f, which returns to y; then both ways are one again.
        made = split((("call", "y", "f", (I(1),)),), ("give", I(5)), otherwise=(("let", "x", I(2)), ("let", "x", I(3))))
        self.told(made, 4, (("way", 0), []), (local("y"), [asks(0), local("y")]), (local("q"), [local("q")]), (("block", 2, 1), [asks(0)]))
        # The same with a todo that is (), and with a call of no local.
        made = split((("call", "y", "g", ()),), ("give", I(5)), otherwise=(("let", "x", I(2)), ("let", "x", I(3))))
        self.told(made, 4, (("way", 0), []), (local("y"), [asks(0), local("y")]), (("block", 2, 1), []))
        made = split((("call", "", "g", ()),), ("give", I(5)), otherwise=(("let", "x", I(2)), ("let", "x", I(3))))
        self.told(made, 4, (("way", 0), []), (local("y"), [local("y")]))

    def test_return_not_gone(self):
        # g's way not gone returns into y; the way gone goes on in g.
        early = (("h", (("a", "int"),), (), (("n", "int", 1),), "int", (("if", L("a"), (("return", I(1)),), ()), ("give", I(1)), ("return", I(2)))),)
        made = one(("ask", "x", 0, 1), ("call", "y", "h", (X,)), ("give", I(5)), ("let", "x", I(5)), ("let", "x", I(6)), more=early)
        self.told(made, 3, (("way", 0), [asks(0)]), (local("y"), [asks(0), local("y")]), (("block", 2, 1), []))
        # "return" of the other way: the target, and the slots with local blocks.
        self.told(made, 4, (local("y"), [asks(0), local("y")]), (("block", 2, 1), [asks(0)]), (("block", 3, 1), []), (("given", 0), [asks(0)]))
        self.told(made, 5, (("given",), [asks(0)]), (local("y"), [asks(0)]))

    def test_todo_that_is_empty_not_gone(self):
        late = (("h", (("a", "int"),), (), (("n", "int", 1),), "int", (("if", L("a"), (), (("give", I(1)), ("give", I(1)), ("return", I(3)))),)),)
        made = one(("ask", "x", 0, 1), ("call", "y", "h", (X,)), ("give", I(5)), more=late)
        self.told(made, 4, (("block", 2, 1), [asks(0)]), (local("y"), [asks(0), local("y")]))
        self.told(made, 6, (local("y"), [asks(0)]))

    def test_ghost_that_has_ended_vanishes(self):
        made = split((), ("give", I(1)), ("give", I(2)), ("give", I(3)), otherwise=(("give", I(0)), ("give", I(0)), ("give", I(0)),
                                                                                 ("give", I(0)), ("give", I(0))))
        # The other way: three gives, its end, and then it is gone.
        self.told(made, 5, (("way", 0), [asks(0)]))
        self.told(made, 6, (("way", 0), [asks(0)]), (local("y"), [asks(0), local("y")]))
        self.told(made, 7, (("way", 0), []), (local("y"), [local("y")]), (("given", 4), [asks(0)]))
        self.told(made, 8, (("given", 5), [asks(0)]))

    def test_while(self):
        made = one(("ask", "x", 0, 1), ("let", "y", I(4)), ("while", X, (("store", S, I(1)), ("let", "x", I(0)))), ("give", I(1)), ("give", I(2)),
                   ("let", "x", I(7)), ("let", "x", I(8)), ("let", "x", I(9)))
        self.told(made, 3, (("way", 0), [asks(0)]), (cell(0), [cell(0)]))
        self.told(made, 4, (cell(0), [asks(0), cell(0)]), (cell(0, 1), [cell(0, 1)]))
        # Its e is not known at the "while": the other way goes on in both ways.
        self.told(made, 8, (("way", 0), [asks(0)]), (("given",), [asks(0)]), (local("y"), [asks(0)]))

    def test_known_tests(self):
        # The other way's own tests: one that hangs on nothing is known, one on a local that may be otherwise is not.
        known = split((("if", I(0), (("ask", "y", 0, 9),), (("take", "k"),)), ("give", I(1))), ("let", "y", I(1)), ("let", "y", I(1)), ("let", "y", I(1)))
        self.told(known, 4, (("asked",), []), (("lock", "k"), [asks(0)]))
        unknown = split((("if", Y, (("ask", "y", 0, 9),), (("take", "k"),)), ("give", I(1))), ("let", "y", I(1)), ("let", "y", I(1)), ("let", "y", I(1)))
        self.told(unknown, 4, (("asked",), [asks(0)]), (("lock", "k"), [asks(0)]))
        wrong = split((("if", ("share", I(1), I(0)), (("ask", "y", 0, 9),), (("take", "k"),)),), ("let", "y", I(1)), ("let", "y", I(1)))
        self.told(wrong, 4, (("asked",), [asks(0)]), (("lock", "k"), [asks(0)]))
        # A local that was let from nothing is known.
        let = one(("let", "y", I(1)), ("ask", "x", 0, 1), ("if", X, (("if", Y, (("ask", "y", 0, 9),), (("take", "k"),)), ("give", I(1))), ()),
                  ("let", "x", I(1)), ("let", "x", I(1)), ("let", "x", I(1)))
        self.told(let, 5, (("asked",), [asks(0)]), (("lock", "k"), []))

    def test_frame_of_another_function_is_not_known(self):
        # The other way is in g at depth 2 while the thread is in f there: its local is not known, what needs none is.
        more = (("f", (), (("b", "int"),), (), "none", (("let", "b", I(1)), ("let", "b", I(1)), ("let", "b", I(1)), ("let", "b", I(1)))),
                ("g", (), (("c", "int"),), (), "none", (("let", "c", I(1)), ("if", L("c"), (("take", "k"),), (("ask", "c", 0, 9),)),)),
                ("h", (), (("b", "int"),), (), "none", (("let", "b", I(1)), ("if", I(1), (("take", "k"),), (("ask", "b", 0, 9),)),)))
        for word, told in (("g", [asks(0)]), ("h", [])):
            made = split((("call", "", word, ()),), otherwise=(("call", "", "f", ()),), more=more)
            self.told(made, 6, (("lock", "k"), [asks(0)]), (("asked",), told))

    def test_frames_deeper_than_the_stack_are_not_known(self):
        # The other way calls itself again, where the thread has no frame.
        more = (("f", (("n", "int"),), (), (), "none", (("if", L("n"), (("take", "k"),), (("ask", "n", 0, 9),)), ("call", "", "f", (I(0),)))),)
        made = split((("call", "", "f", (I(0),)),), ("let", "y", I(1)), ("let", "y", I(1)), ("let", "y", I(1)), ("let", "y", I(1)), more=more)
        self.told(made, 5, (("lock", "k"), [asks(0)]), (("asked",), [asks(0)]))
        # Of a block that stands: its name is known if nothing hangs on it.
        name = ("same", ("block", "m"), ("block", "m"))
        made = split((("if", name, (("take", "k"),), (("ask", "y", 0, 9),)),), ("let", "y", I(1)), ("let", "y", I(1)), blocks=(("m", "int", 1),))
        self.told(made, 4, (("lock", "k"), [asks(0)]), (("asked",), []))

    def test_sources_lead_astray_each_for_itself(self):
        made = one(("ask", "x", 0, 1), ("ask", "y", 0, 1), ("if", X, (("if", Y, (("take", "k"),), ()),), (("if", Y, (("take", "k"),), ()),)),
                   ("give", I(1)), ("give", I(1)))
        self.told(made, 4, (("way", 0), [asks(1)]), inputs=(0, 0))
        self.told(made, 3, (("way", 0), []), inputs=(0, 0))

    def test_threads_for_themselves(self):
        made = program((("ask", "x", 0, 1), ("if", X, (("let", "y", I(1)),), ()), ("give", Y)), ROWS, (("s", "int", 1),), (), threads=("main", "main"))
        start = begun(made)
        self.assertEqual(causes_of(start, [0, 0], [0, 1, 0], ("way", 0)), (asks(0),))
        self.assertEqual(causes_of(start, [0, 0], [0, 1, 0], ("way", 1)), ())
        self.assertEqual(causes_of(start, [0, 0], [0, 1, 1], ("way", 1)), (asks(1),))
        self.assertEqual(causes_of(start, [0, 0], [1, 0, 0], ("way", 0)), (asks(1),))

    def test_64_ghosts_and_65(self):
        # A loop that may go on for ever lets one more way out with each step.
        body = (("ask", "x", 0, 0), ("while", X, ())) + (("take", "k"), ("leave", "k")) * 40
        made = program(body, ROWS, (), ("k",))
        for many, told in ((2, (asks(0),)), (2 + 62, (asks(0),))):
            self.assertEqual(causes(made, [0], [0] * many, ("way", 0)), told)
        for call in (lambda: causes(made, [0], [0] * (2 + 63), ("way", 0)), lambda: causes(made, [0], [0] * (2 + 63), ("wrong",)),
                     lambda: causes(made, [0], [0] * (2 + 70), ("lock", "k"))):
            with self.assertRaises(TooMany) as caught:
                call()
            self.assertEqual(caught.exception.most, 64)
        # What comes ahead of it.
        self.assertRaises(BadSight, causes, made, [0], [0] * 65, ("lock", "z"))
        # The last, wrong step does not count.
        for many, fine in ((62, True), (63, False)):
            wrong = program(body[:2 + many] + (("leave", "k"),) if many % 2 == 0 else body[:2 + many] + (("take", "k"),), ROWS, (), ("k",))
            weaving = [0] * (2 + many + 1)
            if fine:
                self.assertEqual(wrong_causes(begun(wrong), [0], weaving), (asks(0),))
            else:
                self.assertRaises(TooMany, wrong_causes, begun(wrong), [0], weaving)

    def test_each_way_is_kept_once(self):
        # Ten tests that are not known and lead on in one way: no more ghosts than one.
        body = (("ask", "x", 0, 1), ("if", X, (("let", "y", I(1)),), ())) + (("if", X, (), ()),) * 10 + (("let", "y", I(1)),) * 4
        made = program(body, ROWS)
        for many in range(2, 14):
            self.assertEqual(causes(made, [0], [0] * many, ("way", 0)), (asks(0),))

    def test_ghosts_of_12_frames_vanish(self):
        # The other way calls itself ever deeper; the thread ends.
        more = (("deep", (), (), (), "none", (("call", "", "deep", ()),)),)
        body = (("ask", "x", 0, 1), ("if", X, (("call", "", "deep", ()),), ())) + (("let", "y", I(1)),) * 14
        made = program(body, ROWS, (), (), more=more)
        self.assertEqual(causes(made, [0], [0] * (2 + 11), ("way", 0)), (asks(0),))
        self.assertEqual(causes(made, [0], [0] * (2 + 12), ("way", 0)), ())


class Errors(unittest.TestCase):
    def test_causes_of(self):
        made = one(("take", "k"), ("take", "k"))
        start = begun(made)
        self.assertRaises(BadMoment, causes_of, None, None, None, None)
        self.assertRaises(BadInputs, causes_of, start, [None], None, None)
        self.assertRaises(BadNumber, causes_of, start, [], [True], None)
        for call in (lambda: causes_of(start, [], [0, 0, 0], None), lambda: causes_of(start, [], [0, 0], None)):
            with self.assertRaises(NotNow) as caught:
                call()
            self.assertEqual(caught.exception.why, "wrong")
        for sight in (None, ("lock", "z"), ["free"], ("given", True)):
            self.assertRaises(BadSight, causes_of, start, [], [0], sight)
        self.assertEqual(causes_of(moment=start, inputs=(), weaving=(0,), sight=("wrong",)), ())

    def test_wrong_causes(self):
        made = one(("take", "k"), ("take", "k"))
        start = begun(made)
        self.assertRaises(BadMoment, wrong_causes, None, None, None)
        self.assertRaises(BadInputs, wrong_causes, start, [None], None)
        self.assertRaises(BadNumber, wrong_causes, start, [], [1])
        self.assertRaises(NotNow, wrong_causes, start, [], [0, 0, 0])
        self.assertIsNone(wrong_causes(start, [], [0]))
        self.assertIsNone(wrong_causes(start, [], []))
        wrong = run(start, [], [0, 0])[0][-1]
        self.assertIsNone(wrong_causes(wrong, [], []))
        self.assertRaises(NotNow, causes_of, wrong, [], [], ("free",))

    def test_nothing_is_changed(self):
        made = one(("ask", "x", 0, 9), ("give", X))
        inputs, weaving, start = [1, 2], [0, 0], begun(made)
        causes_of(start, inputs, weaving, ("given",)), wrong_causes(start, inputs, weaving)
        self.assertEqual((inputs, weaving, start), ([1, 2], [0, 0], begun(made)))


class WrongByHand(unittest.TestCase):
    def told(self, made, inputs, many, sources, word):
        start = begun(made)
        self.assertEqual(run(start, inputs, [0] * many)[0][-1].wrong, (0, word))
        self.assertEqual(wrong_causes(start, inputs, [0] * many), tuple(sorted(sources)))

    def test_expressions(self):
        self.told(one(("let", "x", ("sum", Y, ("at", S)))), [], 1, [local("y")], "unset")
        self.told(one(("ask", "x", 0, 9), ("let", "y", ("share", ("at", S), X))), [0], 2, [asks(0), cell(0)], "share")
        self.told(one(("ask", "x", 0, 9), ("give", ("at", ("on", S, X)))), [2], 2, [asks(0)], "beyond")
        self.told(one(("give", ("at", ("at", ("shared", "t"))))), [], 1, [cell(1)], "null")
        # What is behind the wrong is not worked out.
        self.told(one(("store", ("null", "int"), Y)), [], 1, [local("y")], "unset")
        self.told(one(("call", "x", "f", (("share", I(1), I(0)),)), more=(("f", (("a", "int"),), (), (), "int", ()),)), [], 1, [], "share")

    def test_deeds(self):
        self.told(one(("ask", "x", 0, 9), ("store", ("on", S, X), I(1))), [2], 2, [asks(0)], "beyond")
        self.told(one(("store", ("null", "int"), I(1))), [], 1, [], "null")
        self.told(one(("ask", "x", 17, 99), ("make", "p", "int", X)), [17], 2, [asks(0)], "great")
        self.told(one(("away", S)), [], 1, [], "away")
        self.told(one(("leave", "k")), [], 1, [], "lock")
        self.told(one(("ask", "x", 0, 1), ("make", "p", "int", I(1)), ("away", Q), ("if", X, (("make", "q", "int", I(1)),), ()), ("away", Q)),
                  [0], 5, [asks(0)], "gone")
        self.told(program((("call", "", "main", ()),)), [], 12, [], "deep")

    def test_shapes_of_what_is_written_or_given_back(self):
        ahead = (("ask", "x", 1, 2), ("make", "p", "int", X), ("away", Q))
        self.told(one(*ahead, ("away", Q)), [1], 4, [asks(0)], "gone")
        self.told(one(*ahead, ("store", Q, I(1))), [1], 4, [asks(0)], "gone")
        # Not that of a pointer which is stored.
        self.told(one(*ahead, ("store", ("null", P), Q), more=()), [1], 4, [], "null")

    def test_shapes_of_what_is_looked_at(self):
        # The block of p hangs on input 0 by its number of cells.
        made = one(("ask", "x", 1, 2), ("make", "p", "int", X), ("let", "q", ("on", Q, I(1))), ("store", L("q"), I(5)))
        self.told(made, [1], 4, [asks(0)], "beyond")
        made = one(("ask", "x", 1, 2), ("make", "p", "int", X), ("call", "y", "f", (I(1),)),
                   more=(("f", (("a", "int"),), (), (("n", "int", 1),) * 1, "int", (("call", "", "f", (I(1),)),)),))
        self.told(made, [1], 2 + 12, [asks(0)], "deep")

    def test_locks_of_ways_not_gone(self):
        made = one(("ask", "x", 0, 1), ("if", X, (("leave", "k"),), (("let", "y", I(1)),)), ("take", "k"), ("take", "k"))
        self.told(made, [0], 5, [], "lock")
        made = one(("ask", "x", 0, 1), ("if", X, (("take", "k"),), (("let", "y", I(1)),)), ("leave", "k"))
        self.told(made, [0], 4, [asks(0)], "lock")


class WordByWord(unittest.TestCase):
    """All causes against those of plainflows.py."""

    def test_runs(self):
        told, astray = 0, 0
        for seed, (made, inputs, weaving) in enumerate(all_runs(30, 50) + branching_runs(90)):
            place = random.Random(seed).randint(0, min(len(weaving), 20)) if seed % 2 else 0
            start, rest = run(begun(made), inputs, weaving[:place])[0][-1], weaving[place:]
            if start.wrong is not None:
                continue
            moments = run(start, inputs, rest)[0]
            wrong = moments[-1].wrong is not None
            ahead, moments = (rest[:-1], moments[:-1]) if wrong else (rest, moments)
            flows = PlainFlows(start)
            try:
                for thread, after in zip(ahead, moments[1:]):
                    flows.step(thread, after)
            except TooMany:
                self.assertRaises(TooMany, causes_of, start, inputs, ahead, ("asked",))
                continue
            for sight in all_sights(moments):
                found = causes_of(start, inputs, ahead, sight)
                self.assertEqual(found, tuple(sorted(flows.of_sight(sight))), (seed, sight))
                told += len(found)
                astray += len(found) if sight[0] == "way" else 0
            if wrong:
                self.assertEqual(wrong_causes(start, inputs, rest), tuple(sorted(flows.of_wrong(rest[-1]))))
        self.assertGreater(told, 2000)
        self.assertGreater(astray, 20)


class Hearts(unittest.TestCase):
    """Akin runs that are alike but for sources that are no causes see, and do wrong, the same."""

    def start_in(self, made, inputs, weaving, dice):
        moments = run(begun(made), inputs, weaving)[0]
        place = dice.randint(0, min(len(weaving), 20))
        return moments[place], weaving[place:]

    def exchange_each(self, start, inputs, weaving, dice):
        """Akin starts and inputs: each source exchanged alone, some with others."""
        sources = sources_of(start, inputs, weaving)
        for source in sources:
            other, others = exchanged(dice, start, inputs, source)
            yield other, others
            yield exchanged(dice, other, others, dice.choice(sources))

    def test_plain_runs(self):
        unlike = 0
        for seed, (made, inputs, weaving) in enumerate(all_runs(40, 50)):
            dice = random.Random(seed)
            start, weaving = self.start_in(made, inputs, weaving, dice)
            if run(start, inputs, weaving)[0][-1].wrong is not None:
                weaving = weaving[:-1]
            moments = moments_of(start, inputs, weaving)
            if moments[-1].wrong is not None:
                continue
            known = {sight: set(causes_of(start, inputs, weaving, sight)) for sight in all_sights(moments)}
            for other, others in self.exchange_each(start, inputs, weaving, dice):
                found = moments_of(other, others, weaving)
                if found is None or found[-1].wrong is not None:
                    continue
                at = set(unlike_sources(start, inputs, weaving, other, others))
                for sight, told in known.items():
                    if seen_at(moments[-1], sight) != seen_at(found[-1], sight):
                        unlike += 1
                        self.assertTrue(told & at, (seed, sight, at))
        self.assertGreater(unlike, 500)

    def test_wrong_runs(self):
        words, others_met = set(), 0
        rows = [(seed, made, [1, 0, 2], None) for seed, made in enumerate(made for row in by_words().values() for made in row)]
        rows += [(seed, made, inputs, weaving) for seed, (made, inputs, weaving) in enumerate(runs(60, 60, 100))]
        for seed, made, inputs, weaving in rows:
            dice = random.Random(seed)
            weaving = weaving or weaving_of(begun(made), inputs, 40, seed)
            if run(begun(made), inputs, weaving)[0][-1].wrong is None:
                continue
            start, rest = begun(made), weaving
            if weaving[1:]:
                place = dice.randint(0, min(len(weaving) - 1, 12))
                start, rest = run(begun(made), inputs, weaving[:place])[0][-1], weaving[place:]
            wrong = run(start, inputs, rest)[0][-1].wrong
            words.add(wrong[1])
            told = set(wrong_causes(start, inputs, rest))
            for other, others in self.exchange_each(start, inputs, rest, dice):
                ahead = moments_of(other, others, rest[:-1])
                if ahead is None or ahead[-1].wrong is not None:
                    continue
                found = moments_of(other, others, rest)
                at = set(unlike_sources(start, inputs, rest[:-1], other, others))
                if found is None or found[-1].wrong != wrong:
                    others_met += 1
                    self.assertTrue(told & at, (seed, wrong, at))
        self.assertEqual(words, {"unset", "null", "gone", "beyond", "unlike", "great", "share", "away", "deep", "lock"})
        self.assertGreater(others_met, 20)


def copying(seed):
    """A copying program: inputs go their ways through locals and cells."""
    dice = random.Random(seed)
    rows = tuple((word, "int") for word in "abc") + (("p", P), ("q", P))
    leaf = lambda: dice.choice([L(word) for word in "abc"] + [I(7), ("at", L("p")), ("at", L("q")), ("at", ("shared", "s"))])
    pointer = lambda: dice.choice([("shared", "s"), ("shared", "u"), ("block", "m"), L("p"), L("q")])
    body = [("let", word, I(1)) for word in "abc"] + [("let", "p", ("shared", "s")), ("make", "q", "int", I(2)),
                                                      ("store", L("q"), I(3)), ("store", ("block", "m"), I(4))]
    for _ in range(14):
        body.append(dice.choice((("ask", dice.choice("abc"), 0, 9), ("ask", dice.choice("abc"), 0, 9),
                                 ("store", ("shared", dice.choice("su")), L(dice.choice("abc"))), ("let", dice.choice("abc"), leaf()), ("store", pointer(), leaf()),
                                 ("let", dice.choice("pq"), pointer()), ("call", dice.choice("abc"), "f", (leaf(), pointer())),
                                 ("take", "k"), ("give", leaf()))))
        if body[-1] == ("take", "k"):
            body.append(("leave", "k"))
    f = ("f", (("x", "int"), ("p", P)), (), (("n", "int", 1),), "int", (("store", L("p"), L("x")), ("store", ("block", "n"), L("x")),
                                                                       ("return", ("at", ("block", "n")))))
    return program(body, rows, (("s", "int", 1), ("u", "int", 2)), ("k",), (("m", "int", 1),), more=(f,),
                   threads=("main", "main")[:dice.randint(1, 2)])


class Copying(unittest.TestCase):
    def test_what_is_one(self):
        shared = (("s", "int", 1), ("t", P, 1))
        made = lambda *body: program(body, ROWS, shared, ("k",), (("m", "int", 1),),
                                     more=(("f", (("a", "int"),), (), (), "int", (("return", L("a")),)),))
        for body in ((), (("let", "x", I(3)),), (("let", "x", ("at", S)),), (("store", ("at", ("shared", "t")), ("at", Q)),),
                     (("make", "p", "int", I(3)),), (("ask", "x", 0, 9), ("give", X)), (("call", "x", "f", (("at", ("block", "m")),)),),
                     (("take", "k"), ("leave", "k"), ("return",)), (("let", "p", ("null", "int")),)):
            self.assertTrue(is_copying(made(*body)), body)
        for body in ((("if", I(1), (), ()),), (("while", I(0), ()),), (("away", Q),), (("make", "p", "int", X),),
                     (("make", "p", "int", ("at", S)),), (("let", "x", ("sum", X, I(1))),), (("let", "x", ("at", ("at", ("shared", "t")))),),
                     (("give", I(1)), ("call", "x", "f", (("not", X),))), (("store", ("on", S, I(0)), I(1)),)):
            self.assertFalse(is_copying(made(*body)), body)
        self.assertFalse(is_copying(program((), more=(("f", (), (), (), "int", (("return", ("not", I(1))),)),))))
        self.assertTrue(is_copying(program=program(())))
        for thing in (None, 5, ((), (), (), ())):
            with self.assertRaises(BadTree) as caught:
                is_copying(thing)
            self.assertIsNone(caught.exception.at)

    def test_heart(self):
        shown = 0
        for seed in range(40):
            made = copying(seed)
            self.assertTrue(is_copying(made))
            inputs = list(range(0, 10)) * 3
            weaving = weaving_of(begun(made), inputs, 60, seed)
            last = run(begun(made), inputs, weaving)[0][-1]
            if last.wrong is not None:
                weaving = weaving[:-1]
                last = run(begun(made), inputs, weaving)[0][-1]
            for slot, offset in ((0, 0), (1, 0), (1, 1)):
                told = [source for source in causes_of(begun(made), inputs, weaving, cell(slot, offset)) if source[0] == "input"]
                self.assertLessEqual(len(told), 1)
                for _, number in told:
                    shown += 1
                    self.assertEqual(seen_at(last, cell(slot, offset)), inputs[number])
                    for value in (0, 4, 9):
                        others = inputs[:number] + [value] + inputs[number + 1:]
                        found = run(begun(made), others, weaving)[0][-1]
                        self.assertEqual(seen_at(found, cell(slot, offset)), value)
        self.assertGreater(shown, 20)


if __name__ == "__main__":
    unittest.main()
