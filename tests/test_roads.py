"""Points 85 and 86: accounts, roads, and chains."""

import random
import unittest

from akin import all_sights, exchanged, moments_of
from made import I, L, all_runs, branching_runs, by_words, program, weaving_of
from plainflows import PlainFlows
from firstwrong.chains import chain_of, is_chain
from firstwrong.errors import BadInputs, BadMoment, BadNumber, BadSight, NotNow
from firstwrong.moments import Moment, begun
from firstwrong.roads import account_of, is_road, road_of
from firstwrong.sights import seen_at
from firstwrong.sources import sources_of, unlike_sources
from firstwrong.steps import run
from firstwrong.trees import Program

P = ("to", "int")
X, Y, Q = L("x"), L("y"), L("p")
S = ("shared", "s")
ROWS = (("x", "int"), ("y", "int"), ("p", P), ("q", P))
F = ("f", (("a", "int"),), (("b", "int"),), (("n", "int", 1),), "int", (("let", "b", L("a")), ("return", L("b"))))
G = ("g", (), (), (), "int", ())


def one(*body, **more):
    more.setdefault("locks", ("k",))
    more.setdefault("more", (F, G))
    return program(body, ROWS, (("s", "int", 2), ("t", P, 1)), **more)


def copier():
    """Two threads that hand values on through locals, params, results and cells of like words."""
    f = ("f", (("x", "int"), ("y", "int")), (("z", "int"),), (), "int", (
        ("let", "z", X), ("let", "x", Y), ("call", "y", "g", (L("z"), X)), ("store", S, Y), ("return", L("z"))))
    g = ("g", (("y", "int"), ("x", "int")), (), (), "int", (("store", ("on", S, I(1)), Y), ("return", X)))
    body = (("let", "x", I(1)), ("let", "y", I(2)), ("call", "x", "f", (X, Y)), ("call", "y", "g", (Y, X)), ("let", "z", ("at", S)),
            ("let", "x", ("at", ("on", S, I(1)))), ("call", "z", "f", (L("z"), I(3))), ("let", "y", L("z")))
    return program(body, (("x", "int"), ("y", "int"), ("z", "int")), (("s", "int", 2),), more=(f, g), threads=("main", "main"))


class Accounts(unittest.TestCase):
    def told(self, made, inputs, weaving, word, *behind):
        start = begun(made)
        last = run(start, inputs, weaving)[0][-1]
        self.assertEqual(last.wrong[1], word)
        self.assertEqual(account_of(start, inputs, weaving), (("did", len(weaving) - 1),) + behind)

    def test_unset_locals(self):
        self.told(one(("give", X)), [], [0], "unset", ("left", None))
        self.told(one(("call", "y", "f", (I(1),)), more=(F[:5] + ((("give", I(1)), ("give", L("b"))),),)), [], [0] * 3, "unset", ("left", 0))
        # The todo that is () leaves its target unset.
        self.told(one(("let", "x", I(1)), ("call", "x", "g", ()), ("give", X)), [], [0] * 4, "unset", ("left", 2))
        self.told(one(("call", "y", "f", (I(1),)), ("call", "y", "g", ()), ("give", Y)), [], [0] * 6, "unset", ("left", 4))
        # A target of another word, or of another depth, is not this local.
        self.told(one(("call", "x", "g", ()), ("give", Y)), [], [0] * 3, "unset", ("left", None))
        deep = (("f", (), (("x", "int"),), (), "int", (("call", "x", "g", ()), ("let", "x", I(1)), ("return", X))), G)
        self.told(one(("call", "y", "f", ()), ("give", X), more=deep), [], [0] * 6, "unset", ("left", None))
        # A frame that ends with a value leaves nothing unset; one that begins right ahead of the wrong step counts.
        self.told(one(("call", "y", "f", (I(1),)), ("give", ("sum", Y, X))), [], [0] * 4, "unset", ("left", None))
        two = (("f", (), (("b", "int"),), (), "none", (("call", "", "h", ()), ("give", L("b")))), ("h", (), (), (), "none", ()))
        self.told(one(("give", I(1)), ("call", "", "f", ()), more=two), [], [0] * 5, "unset", ("left", 1))
        # What another thread leaves unset does not count.
        self.told(one(("let", "x", I(1)), ("call", "y", "g", ()), ("give", ("same", X, Y)), threads=("main", "main")), [],
                  [0, 0, 0, 1, 1, 1, 0], "unset", ("left", 2))

    def test_unset_cells(self):
        self.told(one(("give", I(1)), ("make", "p", "int", I(2)), ("give", ("at", Q))), [], [0] * 3, "unset", ("left", 1))
        self.told(one(("call", "y", "f", (I(1),)), more=(F[:5] + ((("give", ("at", ("block", "n"))),),),)), [], [0] * 2, "unset", ("left", 0))
        self.told(one(("give", ("at", ("block", "m"))), blocks=(("m", "int", 1),)), [], [0], "unset", ("left", None))

    def test_gone(self):
        made = one(("make", "p", "int", I(1)), ("give", I(1)), ("away", Q), ("give", I(1)), ("give", ("at", Q)))
        self.told(made, [], [0] * 5, "gone", ("made", 0), ("gave", 2))
        made = one(("make", "p", "int", I(1)), ("make", "q", "int", I(1)), ("away", Q), ("away", L("q")), ("give", ("same", L("q"), Q)))
        self.told(made, [], [0] * 5, "gone", ("made", 1), ("gave", 3))
        made = one(("make", "p", "int", I(1)), ("make", "q", "int", I(1)), ("away", Q), ("give", ("below", L("q"), Q)))
        self.told(made, [], [0] * 4, "gone", ("made", 0), ("gave", 2))
        made = one(("make", "p", "int", I(1)), ("away", Q), ("store", Q, I(3)))
        self.told(made, [], [0] * 3, "gone", ("made", 0), ("gave", 1))
        made = one(("make", "p", "int", I(1)), ("away", Q), ("store", ("shared", "t"), Q), ("store", ("at", ("shared", "t")), I(3)))
        self.told(made, [], [0] * 4, "gone", ("made", 0), ("gave", 1))
        # A local block that its function told of: made by the call, gone by the return.
        h = ("h", (), (), (("n", "int", 1),), P, (("return", ("block", "n")),))
        self.told(one(("call", "p", "h", ()), ("give", ("at", Q)), more=(h,)), [], [0] * 3, "gone", ("made", 0), ("gave", 1))
        # Gone ahead of the first moment.
        first = run(begun(made), [], [0, 0])[0][-1]
        self.assertEqual(account_of(first, [], [0, 0]), (("did", 1), ("made", None), ("gave", None)))
        first = run(begun(made), [], [0])[0][-1]
        self.assertEqual(account_of(first, [], [0, 0, 0]), (("did", 2), ("made", None), ("gave", 0)))

    def test_beyond_away_unlike(self):
        self.told(one(("make", "p", "int", I(1)), ("give", ("at", ("on", Q, I(1))))), [], [0] * 2, "beyond", ("made", 0))
        self.told(one(("give", ("at", ("on", S, I(3))))), [], [0], "beyond", ("made", None))
        self.told(one(("give", I(1)), ("make", "p", "int", I(1)), ("store", ("on", Q, I(1)), I(1))), [], [0] * 3, "beyond", ("made", 1))
        self.told(one(("make", "p", "int", I(2)), ("away", ("on", Q, I(1)))), [], [0] * 2, "away", ("made", 0))
        self.told(one(("away", S)), [], [0], "away", ("made", None))
        self.told(one(("make", "p", "int", I(2)), ("make", "q", "int", I(2)), ("give", ("below", L("q"), Q))), [], [0] * 3, "unlike",
                  ("made", 1), ("made", 0))
        self.told(one(("make", "p", "int", I(2)), ("give", ("gap", S, Q))), [], [0] * 2, "unlike", ("made", None), ("made", 0))
        # A pointer that is stored is no pointer of the deed.
        self.told(one(("make", "p", "int", I(2)), ("store", ("on", ("shared", "t"), I(1)), Q)), [], [0] * 2, "beyond", ("made", None))

    def test_lock_and_deep(self):
        self.told(one(("take", "k"), ("give", I(1)), ("take", "k")), [], [0] * 3, "lock", ("lock", 0))
        self.told(one(("give", I(1)), ("leave", "k")), [], [0] * 2, "lock", ("lock", None))
        self.told(one(("take", "k"), ("leave", "k"), ("leave", "k")), [], [0] * 3, "lock", ("lock", 1))
        self.told(one(("take", "k"), ("leave", "k"), ("leave", "k"), threads=("main", "main")), [], [0, 0, 1, 1, 0], "lock", ("lock", 3))
        made = program((("give", I(1)), ("call", "", "main", ())), threads=("main", "main"))
        self.told(made, [], [1] + [0] * 24, "deep", ("called", None), *[("called", 2 * k) for k in range(1, 12)])
        start = run(begun(made), [], [0, 0, 0, 0])[0][-1]
        self.assertEqual(account_of(start, [], [0] * 20),
                         (("did", 19), ("called", None), ("called", None), ("called", None)) + tuple(("called", 2 * k + 1) for k in range(9)))

    def test_nothing_more(self):
        self.told(one(("make", "p", "int", I(17))), [], [0], "great")
        self.told(one(("give", ("times", I(65536), I(65536)))), [], [0], "great")
        self.told(one(("give", ("rest", I(1), I(0)))), [], [0], "share")
        self.told(one(("give", ("at", ("null", "int")))), [], [0], "null")

    def test_each_word_has_its_roles(self):
        roles = {"unset": ["did", "left"], "null": ["did"], "gone": ["did", "made", "gave"], "beyond": ["did", "made"],
                 "unlike": ["did", "made", "made"], "great": ["did"], "share": ["did"], "away": ["did", "made"], "lock": ["did", "lock"]}
        for word, rows in by_words().items():
            for made in rows:
                weaving = weaving_of(begun(made), [], 40, 0)
                told = account_of(begun(made), [], weaving)
                if word == "deep":
                    self.assertEqual({role for role, _ in told[1:]}, {"called"})
                else:
                    self.assertEqual([role for role, _ in told], roles[word])
                self.assertTrue(all(step is None or step < len(weaving) - 1 for _, step in told[1:]))
                self.assertIsNone(account_of(begun(made), [], weaving[:-1]))

    def test_errors(self):
        start = begun(one(("take", "k"), ("take", "k")))
        self.assertRaises(BadMoment, account_of, None, None, None)
        self.assertRaises(BadInputs, account_of, start, [None], None)
        self.assertRaises(BadNumber, account_of, start, [], [True])
        self.assertRaises(NotNow, account_of, start, [], [0, 0, 0])
        self.assertIsNone(account_of(start, [], []))
        self.assertIsNone(account_of(run(start, [], [0, 0])[0][-1], [], []))
        self.assertEqual(account_of(moment=start, inputs=(), weaving=(0, 0)), (("did", 1), ("lock", 0)))


class PlainRoads:
    """The writes of all steps of a run, by their words, and the roads that they make."""

    def __init__(self, start, inputs, weaving):
        self.moments, self.traces = run(start, inputs, weaving)
        self.written = [self.writes(step, thread) for step, thread in enumerate(weaving)]

    def writes(self, step, thread):
        """What a step wrote: dict from sights to expressions, None for other values."""
        moment, after = self.moments[step], self.moments[step + 1]
        if after.wrong is not None:
            return {}
        stack = moment.stacks[thread]
        depth, (_, todo, _, _, target) = len(stack), stack[-1]
        statement = todo[0] if todo else ("return", None)
        word = statement[0]
        if word in ("let", "ask", "make"):
            return {("local", thread, depth, statement[1]): statement[2] if word == "let" else None}
        if word == "store":
            return {self.traces[step][1][0]: statement[2]}
        if word == "call":
            head = moment.program.functions[moment.program.names.functions[statement[2]]]
            found = {("local", thread, depth + 1, own): None for own, _ in head[2]}
            return {**found, **{("local", thread, depth + 1, own): e for (own, _), e in zip(head[1], statement[3])}}
        if word == "return" and target:
            return {("local", thread, depth - 1, target): statement[1]}
        return {}

    def road(self, weaving, place, sight):
        links = [(place, sight)]
        while True:
            steps = [step for step in range(place) if sight in self.written[step]]
            if not steps:
                return tuple(links + [(0, sight)] * (place > 0))
            place = steps[-1]
            e, thread = self.written[place][sight], weaving[place]
            depth = len(self.moments[place].stacks[thread])
            sight = None
            if e is not None and e[0] == "local":
                sight = ("local", thread, depth, e[1])
            elif e is not None and e[0] == "at":
                sight = ("cell",) + PlainFlows(self.moments[place]).work(e[1], thread, depth, set())
            links.append((place, sight))
            if sight is None:
                return tuple(links)


class Roads(unittest.TestCase):
    def told(self, made, inputs, many, sight, *behind, place=None):
        start = begun(made)
        place = many if place is None else place
        road = ((place, sight),) + behind
        self.assertEqual(road_of(start, inputs, [0] * many, place, sight), road)
        self.assertTrue(is_road(start, inputs, [0] * many, road))

    def test_lets(self):
        x, y = ("local", 0, 1, "x"), ("local", 0, 1, "y")
        made = one(("let", "x", I(5)), ("let", "y", X), ("let", "x", ("sum", X, I(1))), ("give", I(1)))
        self.told(made, [], 4, y, (1, x), (0, None))
        self.told(made, [], 4, x, (2, None))
        self.told(made, [], 4, x, (0, None), place=2)
        self.told(made, [], 4, x, (0, None), place=1)

    def test_cells_asks_makes(self):
        cell, x, p = ("cell", 0, 1, 1), ("local", 0, 1, "x"), ("local", 0, 1, "p")
        made = one(("ask", "x", 0, 9), ("store", ("on", S, I(1)), X), ("let", "y", ("at", ("on", S, I(1)))), ("make", "p", "int", I(1)),
                   ("store", ("shared", "t"), Q))
        self.told(made, [4], 5, ("local", 0, 1, "y"), (2, cell), (1, x), (0, None))
        self.told(made, [4], 5, cell, (1, x), (0, None))
        self.told(made, [4], 5, ("cell", 1, 1, 0), (4, p), (3, None))
        self.told(made, [4], 5, ("cell", 0, 1, 0), (0, ("cell", 0, 1, 0)))
        self.told(made, [4], 5, ("cell", 1, 1, 0), (0, ("cell", 1, 1, 0)), place=3)
        self.told(made, [4], 5, ("cell", 1, 1, 0), place=0)

    def test_stores_of_cells(self):
        made = one(("store", S, I(3)), ("store", ("on", S, I(1)), ("at", S)), ("store", S, I(4)))
        self.told(made, [], 3, ("cell", 0, 1, 1), (1, ("cell", 0, 1, 0)), (0, None))

    def test_calls_and_returns(self):
        x, y, a, b = ("local", 0, 1, "x"), ("local", 0, 1, "y"), ("local", 0, 2, "a"), ("local", 0, 2, "b")
        made = one(("let", "x", I(4)), ("call", "y", "f", (X,)), ("give", Y))
        self.told(made, [], 4, y, (3, b), (2, a), (1, x), (0, None))
        self.told(made, [], 4, a, (1, x), (0, None), place=2)
        self.told(made, [], 4, b, (2, a), (1, x), (0, None), place=3)
        made = one(("call", "y", "f", (I(4),)), ("let", "x", Y))
        self.told(made, [], 4, x, (3, y), (2, b), (1, a), (0, None))
        made = one(("call", "y", "h", (("at", S), I(1))), more=(("h", (("a", "int"), ("b", "int")), (), (), "int", (("return", ("at", S)),)),))
        self.told(made, [], 2, y, (1, ("cell", 0, 1, 0)), (0, ("cell", 0, 1, 0)))
        self.told(made, [], 2, a, (0, ("cell", 0, 1, 0)), place=1)
        self.told(made, [], 2, b, (0, None), place=1)

    def test_what_was_so_at_the_first_moment(self):
        made = one(("call", "y", "f", (I(4),)), ("give", Y))
        start = run(begun(made), [], [0])[0][-1]
        self.assertEqual(road_of(start, [], [0, 0], 2, ("local", 0, 1, "y")),
                         ((2, ("local", 0, 1, "y")), (1, ("local", 0, 2, "b")), (0, ("local", 0, 2, "a"))))
        self.assertEqual(road_of(start, [], [0, 0], 0, ("local", 0, 2, "a")), ((0, ("local", 0, 2, "a")),))
        self.assertEqual(road_of(start, [], [0], 1, ("local", 0, 2, "a")), ((1, ("local", 0, 2, "a")), (0, ("local", 0, 2, "a"))))

    def test_threads_and_wrong_steps(self):
        made = one(("let", "x", I(4)), ("store", S, X), ("let", "x", ("at", S)), ("let", "x", ("share", X, I(0))), threads=("main", "main"))
        start = begun(made)
        weaving = [1, 0, 0, 1, 0, 0]
        self.assertEqual(road_of(start, [], weaving, 6, ("local", 0, 1, "x")),
                         ((6, ("local", 0, 1, "x")), (4, ("cell", 0, 1, 0)), (3, ("local", 1, 1, "x")), (0, None)))

    def test_roads_of_runs(self):
        found = 0
        rows = all_runs(25, 40) + branching_runs(25) + [(made, [], weaving_of(begun(made), [], 60, seed)) for seed, made in enumerate([copier()] * 6)]
        for seed, (made, inputs, weaving) in enumerate(rows):
            dice = random.Random(seed)
            cut = dice.randint(0, len(weaving) // 2)
            start, rest = run(begun(made), inputs, weaving[:cut])[0][-1], weaving[cut:]
            if start.wrong is not None:
                continue
            moments, traces = run(start, inputs, rest)
            plain = PlainRoads(start, inputs, rest)
            for sight in all_sights(moments):
                if sight[0] not in ("local", "cell"):
                    continue
                place = dice.randint(0, len(rest))
                value = seen_at(moments[place], sight)
                if value is None:
                    with self.assertRaises(NotNow) as caught:
                        road_of(start, inputs, rest, place, sight)
                    self.assertEqual(caught.exception.why, "unset")
                    self.assertFalse(is_road(start, inputs, rest, ((place, sight),)))
                    continue
                road = road_of(start, inputs, rest, place, sight)
                found += 1
                self.assertEqual(road, plain.road(rest, place, sight))
                self.heart(moments, traces, road, value)
                self.near(start, inputs, rest, road)
        self.assertGreater(found, 100)

    def heart(self, moments, traces, road, value):
        """The value stands unwritten from each link's step to its place."""
        for number, (place, sight) in enumerate(road):
            last = number == len(road) - 1
            if sight is None:
                self.assertTrue(last)
                continue
            if last:
                self.assertEqual(place, 0)
                since = 0
            else:
                since = road[number + 1][0] + (road[number + 1] != (0, sight))
            for between in range(since, place + 1):
                self.assertEqual(seen_at(moments[between], sight), value)
            if sight[0] == "cell":
                self.assertFalse(any(sight in traces[step][1] for step in range(since, place)))

    def near(self, start, inputs, weaving, road):
        """Things near a road are none."""
        place, sight = road[0]
        for thing in (list(road), road + ((0, None),), None, (), 5, (5,), ((0,),), ((True, sight),) + road[1:], (list(road[0]),) + road[1:],
                      ((place + 10 ** 3, sight),) + road[1:], ((place, ("free",)),) + road[1:], ((place, None),) + road[1:],
                      ((place, list(sight)),) + road[1:]):
            self.assertFalse(is_road(start, inputs, weaving, thing), thing)
        if len(road) > 1:
            self.assertFalse(is_road(start, inputs, weaving, road[:-1]))
            before, last = road[-1]
            self.assertFalse(is_road(start, inputs, weaving, road[:-1] + ((before + 1, last),)))
            self.assertFalse(is_road(start, inputs, weaving, road[:-1] + ((before, ("local", 0, 12, "zz")),)))
        # From each further link but the last one on it is that link's road.
        for number in range(1, len(road) - 1):
            self.assertTrue(is_road(start, inputs, weaving, road[number:]))

    def test_errors(self):
        made = one(("let", "x", I(4)), ("take", "k"))
        start = begun(made)
        x = ("local", 0, 1, "x")
        self.assertRaises(BadMoment, road_of, None, None, None, None, None)
        self.assertRaises(BadInputs, road_of, start, [None], None, None, None)
        self.assertRaises(NotNow, road_of, start, [], [0, 0, 0, 0], None, None)
        for place in (-1, 3, True, None, "1"):
            with self.assertRaises(BadNumber) as caught:
                road_of(start, [], [0, 0], place, None)
            self.assertEqual(caught.exception.part, "place")
        for sight in (None, ("free",), ("name", 0, 1, "m"), ("way", 0), ("input", 0), ("lock", "k"), ("given", 0), ("local", 1, 1, "x"), list(x)):
            self.assertRaises(BadSight, road_of, start, [], [0, 0], 0, sight)
        for place, sight in ((0, x), (2, ("local", 0, 1, "z")), (2, ("local", 0, 2, "x")), (1, ("cell", 0, 1, 2)), (1, ("cell", 9, 1, 0))):
            with self.assertRaises(NotNow) as caught:
                road_of(start, [], [0, 0], place, sight)
            self.assertEqual(caught.exception.why, "unset")
        self.assertEqual(road_of(moment=start, inputs=(), weaving=(0,), place=1, sight=x), ((1, x), (0, None)))
        self.assertRaises(BadMoment, is_road, None, None, None, None)
        self.assertRaises(NotNow, is_road, start, [], [0, 0, 0, 0], None)
        self.assertTrue(is_road(moment=start, inputs=(), weaving=(0,), thing=((1, x), (0, None))))


class Chains(unittest.TestCase):
    def two(self, made, one_inputs, other_inputs, many, sight, chain):
        start = begun(made)
        told = chain_of(start, one_inputs, [0] * many, start, other_inputs, sight)
        self.assertEqual(told, chain)
        if chain is not None:
            self.assertTrue(is_chain(start, one_inputs, [0] * many, start, other_inputs, sight, chain))
        return start

    def test_an_input(self):
        made = one(("ask", "x", 0, 9), ("let", "y", ("sum", X, I(1))), ("let", "x", I(0)), ("give", Y))
        x, y = ("local", 0, 1, "x"), ("local", 0, 1, "y")
        self.two(made, [1], [2], 4, ("given", 0), ((4, ("given", 0)), (3, y), (1, x), (0, ("input", 0))))
        self.two(made, [1], [2], 4, ("given",), ((4, ("given",)), (3, y), (1, x), (0, ("input", 0))))
        self.two(made, [1], [2], 4, x, None)
        self.two(made, [1], [1], 4, ("given",), None)
        self.two(made, [1], [2], 1, x, ((1, x), (0, ("input", 0))))

    def test_a_way(self):
        made = one(("ask", "x", 0, 1), ("if", X, (("give", I(1)),), (("give", I(2)),)), ("let", "y", I(3)))
        way, x = ("way", 0), ("local", 0, 1, "x")
        self.two(made, [0], [1], 3, ("given", 0), ((3, ("given", 0)), (2, way), (1, x), (0, ("input", 0))))
        self.two(made, [0], [1], 3, way, None)
        self.two(made, [0], [1], 2, way, ((2, way), (1, x), (0, ("input", 0))))
        self.two(made, [0], [1], 4, ("local", 0, 1, "y"), None)

    def test_sources_of_the_first_moment(self):
        made = one(("let", "y", ("at", S)), ("let", "x", Y))
        start = begun(made)
        other = Moment(made, start.lives, {**start.memory, 0: ("shared", "int", (9, 0))}, start.held, start.stacks, 0, (), None)
        cell, x, y = ("cell", 0, 1, 0), ("local", 0, 1, "x"), ("local", 0, 1, "y")
        self.assertEqual(chain_of(start, [], [0, 0], other, [], x), ((2, x), (1, y), (0, cell)))
        self.assertEqual(chain_of(start, [], [0, 0], other, [], cell), ((2, cell), (0, cell)))
        self.assertEqual(chain_of(start, [], [], other, [], cell), ((0, cell),))
        self.assertTrue(is_chain(start, [], [], other, [], cell, ((0, cell),)))
        self.assertFalse(is_chain(start, [], [], other, [], cell, ((0, cell), (0, cell))))
        self.assertFalse(is_chain(start, [], [0, 0], other, [], cell, ((2, cell),)))
        self.assertFalse(is_chain(start, [], [0, 0], other, [], x, ((2, x), (1, y), (0, cell), (0, cell))))
        self.assertFalse(is_chain(start, [], [0, 0], other, [], x, ((2, x), (1, y))))

    def test_the_least_look(self):
        made = one(("ask", "x", 0, 9), ("ask", "y", 0, 9), ("give", ("sum", Y, X)))
        x, y = ("local", 0, 1, "x"), ("local", 0, 1, "y")
        g = ("given", 0)
        start = self.two(made, [1, 2], [3, 4], 3, g, ((3, g), (2, x), (0, ("input", 0))))
        for chain in (((3, g), (2, x), (0, ("input", 0))), ((3, g), (2, y), (1, ("input", 1)))):
            self.assertTrue(is_chain(start, [1, 2], [0] * 3, start, [3, 4], g, chain))
        for chain in (((3, g), (2, x), (1, ("input", 1))), ((3, g), (2, y), (0, ("input", 0))), ((3, g), (1, x), (0, ("input", 0))),
                      ((3, g), (2, x)), ((3, g),), ((2, x), (0, ("input", 0))), [(3, g), (2, x), (0, ("input", 0))],
                      ((3, g), [2, x], (0, ("input", 0))), ((3, g), (2, x), (False, ("input", 0))), ((3, g), (2, x), (0, ("input", False))),
                      ((3, g), (2, x), (0, ("input", 0)), (0, ("input", 0))), None, (), 5):
            self.assertFalse(is_chain(start, [1, 2], [0] * 3, start, [3, 4], g, chain), chain)
        # What is alike in both is no link.
        self.assertFalse(is_chain(start, [1, 2], [0] * 3, start, [1, 4], g, ((3, g), (2, x), (0, ("input", 0)))))
        self.assertFalse(is_chain(start, [1, 2], [0] * 3, start, [2, 1], g, ((3, g), (2, x), (0, ("input", 0)))))

    def test_which_input_is_asked(self):
        # The second thread asks the second input if the first one asked ahead of it.
        body = (("if", ("at", ("shared", "s")), (("ask", "x", 0, 9),), (("let", "x", I(5)),)),)
        made = of_two(body)
        start = begun(made)
        other = Moment(made, start.lives, {**start.memory, 0: ("shared", "int", (1,))}, start.held, start.stacks, 0, (), None)
        x = ("local", 1, 1, "x")
        weaving = [0, 0, 1]
        told = chain_of(start, [3, 4], weaving, other, [3, 4], x)
        self.assertEqual(told, ((3, x), (2, ("asked",)), (1, ("way", 0)), (0, ("cell", 0, 1, 0))))
        self.assertTrue(is_chain(start, [3, 4], weaving, other, [3, 4], x, told))

    def test_names_at_the_end_of_a_frame(self):
        # Where the frame's block stands hangs on the input; so does which slot is free behind its end.
        made = one(("ask", "x", 0, 1), ("if", X, (("make", "p", "int", I(1)),), (("let", "y", I(1)),)), ("call", "", "f", (I(1),)), ("give", I(1)),
                   more=(("f", (("a", "int"),), (), (("n", "int", 1),), "none", ()),))
        start = begun(made)
        block = ("block", 2, 1)
        told = chain_of(start, [1], [0] * 5, start, [0], block)
        self.assertEqual(told[0], (5, block))
        self.assertTrue(is_chain(start, [1], [0] * 5, start, [0], block, told))
        name = ("name", 0, 2, "n")
        told = chain_of(start, [1], [0] * 4, start, [0], name)
        self.assertEqual(told, ((4, name), (3, ("free",)), (2, ("way", 0)), (1, ("local", 0, 1, "x")), (0, ("input", 0))))

    def test_names_as_links(self):
        # By input 0 a or b gets the slot of a block that went; which one hangs on where their frames' blocks stand.
        away = ("away", ("at", ("shared", "t")))
        a = ("a", (("x", "int"),), (("z", "int"),), (("m", "int", 1),), "none",
             (("if", L("x"), (("let", "z", I(1)),), (away,)), ("call", "", "b", ()), ("let", "z", I(2))))
        b = ("b", (), (("q", P),), (("n", "int", 1),), "none", (("let", "q", ("block", "n")), ("return",)))
        made = one(("ask", "x", 0, 1), ("make", "p", "int", I(1)), ("store", ("shared", "t"), Q), ("if", X, (away,), (("let", "y", I(1)),)),
                   ("call", "", "a", (X,)), ("give", I(1)), more=(a, b))
        start = begun(made)
        for block in (("block", 2, 2), ("block", 3, 1)):
            told = chain_of(start, [1], [0] * 11, start, [0], block)
            self.assertEqual(told[:3], ((11, block), (10, ("name", 0, 3, "n")), (8, ("free",))))
            self.assertTrue(is_chain(start, [1], [0] * 11, start, [0], block, told))
        q = ("local", 0, 3, "q")
        told = chain_of(start, [1], [0] * 10, start, [0], q)
        self.assertEqual(told[:3], ((10, q), (9, ("name", 0, 3, "n")), (8, ("free",))))
        self.assertTrue(is_chain(start, [1], [0] * 10, start, [0], q, told))
        self.assertEqual(told[-1], (0, ("input", 0)))

    def test_one_step(self):
        made = one(("let", "y", I(1)))
        start = begun(made)
        other = Moment(made, start.lives, {**start.memory, 0: ("shared", "int", (9, 0))}, start.held, start.stacks, 0, (), None)
        cell = ("cell", 0, 1, 0)
        self.assertEqual(chain_of(start, [], [0], other, [], cell), ((1, cell), (0, cell)))

    def test_chains_of_runs(self):
        found, same = 0, 0
        for seed, (made, inputs, weaving) in enumerate(all_runs(30, 40)):
            dice = random.Random(seed)
            cut = dice.randint(0, len(weaving) // 2)
            start, rest = run(begun(made), inputs, weaving[:cut])[0][-1], weaving[cut:]
            moments = moments_of(start, inputs, rest)
            if start.wrong is not None or moments[-1].wrong is not None:
                rest = rest[:-1]
                moments = moments_of(start, inputs, rest)
                if moments is None or moments[-1].wrong is not None:
                    continue
            sources = sources_of(start, inputs, rest)
            for source in dice.sample(sources, min(6, len(sources))):
                other, others = exchanged(dice, start, inputs, source)
                ends = moments_of(other, others, rest)
                if ends is None or ends[-1].wrong is not None:
                    continue
                at = unlike_sources(start, inputs, rest, other, others)
                sights = all_sights([moments[-1], ends[-1]])
                for sight in dice.sample(sights, min(25, len(sights))):
                    chain = chain_of(start, inputs, rest, other, others, sight)
                    if seen_at(moments[-1], sight) == seen_at(ends[-1], sight):
                        same += 1
                        self.assertIsNone(chain)
                        self.assertFalse(is_chain(start, inputs, rest, other, others, sight, ((len(rest), sight),)))
                        continue
                    found += 1
                    self.assertTrue(is_chain(start, inputs, rest, other, others, sight, chain))
                    self.assertIn(chain[-1][1], at)
                    self.assertFalse(is_chain(start, inputs, rest, other, others, sight, chain[:-1]))
                    self.assertFalse(is_chain(start, inputs, rest, other, others, sight, chain + (chain[-1],)))
        self.assertGreater(found, 100)
        self.assertGreater(same, 100)

    def test_errors(self):
        made = one(("take", "k"), ("take", "k"))
        start = begun(made)
        for call in (chain_of, lambda *some: is_chain(*some, None)):
            self.assertRaises(BadMoment, call, None, None, None, None, None, None)
            self.assertRaises(BadInputs, call, start, None, None, None, None, None)
            self.assertRaises(BadNumber, call, start, [], [1], None, None, None)
            self.assertRaises(NotNow, call, start, [], [0, 0, 0], None, None, None)
            with self.assertRaises(BadMoment) as caught:
                call(start, [], [0], None, None, None)
            self.assertIsNone(caught.exception.part)
            self.assertRaises(BadInputs, call, start, [], [0], start, [None], None)
            with self.assertRaises(BadMoment) as caught:
                call(start, [], [0, 0], Moment(made, start.lives, start.memory, (None,), start.stacks, 1, (), None), [], None)
            self.assertEqual(caught.exception.part, "akin")
            with self.assertRaises(NotNow) as caught:
                call(start, [], [0, 0], start, [], None)
            self.assertEqual(caught.exception.why, "wrong")
            self.assertRaises(BadSight, call, start, [], [0], start, [], ("lock", "z"))
        self.assertFalse(is_chain(moment=start, inputs=(), weaving=(0,), other=start, others=(), sight=("free",), thing=None))
        self.assertIsNone(chain_of(moment=start, inputs=(), weaving=(0,), other=start, others=(), sight=("free",)))

    def test_one_of_both_goes_wrong(self):
        made = one(("ask", "x", 0, 9), ("let", "y", ("share", I(8), X)))
        start = begun(made)
        for inputs, others in (([0], [1]), ([1], [0])):
            with self.assertRaises(NotNow) as caught:
                chain_of(start, inputs, [0, 0], start, others, ("free",))
            self.assertEqual(caught.exception.why, "wrong")

    def test_nothing_is_changed(self):
        made = one(("ask", "x", 0, 9), ("give", X))
        start, inputs, others, weaving = begun(made), [1], [2], [0, 0]
        chain_of(start, inputs, weaving, start, others, ("given",)), road_of(start, inputs, weaving, 1, ("local", 0, 1, "x"))
        self.assertEqual((start, inputs, others, weaving), (begun(made), [1], [2], [0, 0]))


def of_two(body):
    """Thread 0 has this body, thread 1 asks."""
    return Program(((("s", "int", 1),), (), (("main", (), (("x", "int"),), (), "none", body),
                                            ("other", (), (("x", "int"),), (), "none", (("ask", "x", 0, 9),))), ("main", "other")))


if __name__ == "__main__":
    unittest.main()
