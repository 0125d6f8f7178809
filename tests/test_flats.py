"""Points 50 to 55: layouts, the flat machine, the bare machine."""

import random
import unittest

from made import I, L, all_runs, by_words, program, read_of, runs, sorter, spill, tally, weaving_of
from firstwrong.bares import bare_run, told_apart
from firstwrong.errors import (BadFlat, BadInputs, BadLayout, BadMoment, BadNumber, BadTree, NotNow, WrongError)
from firstwrong.flats import address_of, flat_begun, moment_told, taken_by
from firstwrong.flatsteps import flat_first_wrong, flat_run, flat_step
from firstwrong.layouts import is_layout, least_base
from firstwrong.moments import Moment, begun
from firstwrong.steps import first_wrong, run, stepped

LOW, HIGH = -(2 ** 31), 2 ** 31 - 1
P = ("to", "int")


def outcome(call):
    try:
        return call()
    except WrongError as error:
        return type(error), vars(error)


def layouts(seed, many=3):
    """Layouts of several kinds; few low hints make places used again."""
    dice = random.Random(seed)
    found = [(dice.choice((0, 5, -1, LOW, HIGH, 200)), ())]
    for _ in range(many - 1):
        most = dice.choice((1, 12, 40, 2 ** 20))
        found.append((dice.choice((0, 7, -3)), tuple(dice.randint(1, most) for _ in range(dice.choice((2, 9, 60))))))
    return found


def seen_by_steps(made, inputs, weaving):
    """What the steps of a clean run read, worked out by a reader of its own."""
    moments, _ = run(begun(made), inputs, weaving)
    found = []
    for thread, moment in zip(weaving, moments):
        frame = moment.stacks[thread][-1]
        if frame[1] == ():
            found.append(("end", ()))
            continue
        reader = Reader(made, moment, frame)
        statement = frame[1][0]
        for e in expressions(statement):
            reader.value(e)
        found.append((statement[0], tuple(reader.seen)))
    return found


def expressions(statement):
    word = statement[0]
    if word in ("let", "make"):
        return statement[-1:]
    if word in ("store", "away", "give", "return"):
        return statement[1:]
    if word in ("if", "while"):
        return statement[1:2]
    return statement[3] if word == "call" else ()


def coming_and_going():
    """Two threads in whose loops blocks are made, given back, and come and go with frames."""
    p, o = L("p"), L("o")
    body = (("while", I(1), (
        ("make", "p", "int", I(2)), ("store", p, I(4)), ("make", "o", "int", I(1)), ("store", ("shared", "t"), p), ("away", p),
        ("call", "x", "f", (o,)), ("away", o))),)
    more = (("f", (("a", P),), (), (("m", "byte", 3), ("n", P, 1)), "int",
             (("store", ("block", "m"), ("byte", 8)), ("store", ("block", "n"), L("a")), ("store", ("at", ("block", "n")), I(6)),
              ("return", ("at", L("a"))))),)
    return program(body, (("x", "int"), ("p", P), ("o", P)), (("t", P, 1),), more=more, threads=("main", "main"))


class Reader:
    """A plain reader of expressions that go well."""

    def __init__(self, made, moment, frame):
        self.made, self.moment, self.seen = made, moment, []
        head = made.functions[frame[0]]
        self.locals = dict(zip([w for w, _ in head[1] + head[2]], frame[2]))
        self.sorts = dict(head[1] + head[2])
        self.blocks = {w: (s, name) for (w, s, _), name in zip(head[3], frame[3])}
        self.shared = {w: (s, slot) for slot, (w, s, _) in enumerate(made.shared)}

    def show(self, sort, value):
        if not isinstance(sort, tuple):
            self.seen.append(value)
        return value

    def sort(self, e):
        if e[0] in ("int", "byte"):
            return e[0]
        if e[0] == "null":
            return ("to", e[1])
        if e[0] == "local":
            return self.sorts[e[1]]
        if e[0] in ("shared", "block"):
            return ("to", (self.shared if e[0] == "shared" else self.blocks)[e[1]][0])
        if e[0] == "at":
            return self.sort(e[1])[1]
        if e[0] in ("on", "sum", "less", "times", "share", "rest"):
            return self.sort(e[1])
        return "byte" if e[0] == "low" else "int"

    def value(self, e):
        word = e[0]
        if word in ("int", "byte"):
            return e[1]
        if word == "null":
            return (0, 0, 0)
        if word == "local":
            return self.show(self.sort(e), self.locals[e[1]])
        if word == "shared":
            return (self.shared[e[1]][1], 1, 0)
        if word == "block":
            return self.blocks[e[1]][1] + (0,)
        first = self.value(e[1])
        if word in ("and", "or"):
            if (first != 0) == (word == "or"):
                return int(first != 0)
            return int(self.value(e[2]) != 0)
        if word == "at":
            return self.show(self.sort(e), self.moment.memory[first[0]][2][first[2]])
        if word in ("wide", "low", "not"):
            return {"wide": first, "low": first if word != "low" else first % 256, "not": int(first == 0)}[word]
        second = self.value(e[2])
        if word == "on":
            return first[:2] + (first[2] + second,)
        if word == "gap":
            return first[2] - second[2]
        if word == "same":
            return int(first == second)
        if word == "below":
            return int(first < second)
        found = {"sum": lambda: first + second, "less": lambda: first - second, "times": lambda: first * second,
                 "share": lambda: first // second, "rest": lambda: first % second}[word]()
        return found % 256 if self.sort(e) == "byte" else found


class Layouts(unittest.TestCase):
    def test_is_layout(self):
        for thing in ((0, ()), (LOW, (1,)), (HIGH, (2 ** 20,) * 400), (-1, (1, 1, 1))):
            self.assertIs(is_layout(thing), True)
        for thing in (None, 1, (), (0,), [0, ()], (0, []), (0, (), 0), (True, ()), (HIGH + 1, ()), (LOW - 1, ()), (None, ()),
                      (0, (0,)), (0, (2 ** 20 + 1,)), (0, (True,)), (0, (None,)), (0, (1.0,)), (0, (1,) * 401), (0, None), "ab"):
            self.assertIs(is_layout(thing), False, thing)

    def test_least_base(self):
        for taken, many, hint, base in (([], 1, 1, 1), ([], 16, 7, 7), ([(1, 1)], 1, 1, 3), ([(1, 1)], 1, 3, 3), ([(1, 1)], 16, 2, 3),
                                        ([(3, 1)], 1, 1, 1), ([(3, 1)], 2, 1, 5), ([(1, 2), (7, 2)], 2, 1, 4),
                                        ([(7, 2), (1, 2)], 3, 1, 10), ([(1, 2), (6, 2)], 1, 1, 4), ([(1, 2), (6, 2)], 2, 1, 9),
                                        ([(5, 16)], 1, 21, 22), ([(5, 16)], 1, 22, 22), ([(10, 3)], 5, 4, 4), ([(10, 3)], 5, 5, 14),
                                        (((2 ** 40, 1),), 1, 2 ** 40, 2 ** 40 + 2)):
            self.assertEqual(least_base(taken=taken, many=many, hint=hint), base, (taken, many, hint))
        dice = random.Random(2)
        for _ in range(300):
            taken = []
            for _ in range(dice.randint(0, 6)):
                many = dice.randint(1, 5)
                taken.append((least_base(taken, many, dice.randint(1, 40)), many))
            many, hint = dice.randint(1, 6), dice.randint(1, 40)
            used = {a for base, cells in taken for a in range(base, base + cells + 1)}
            plain = next(a for a in range(hint, 200) if not used & set(range(a, a + many + 1)))
            self.assertEqual(least_base(taken, many, hint), plain)

    def test_refusals(self):
        for taken in (None, 1, {}, "ab", [1], [[1, 1]], [(1,)], [(1, 1, 1)], [(0, 1)], [(-1, 1)], [(True, 1)], [(1, True)], [(1, 0)],
                      [(1, 17)], [(1.0, 1)], [(1, 1), (2, 1)], [(1, 1), (1, 1)], [(5, 2), (3, 2)], [(1, 16), (4, 1)]):
            with self.assertRaises(BadLayout) as caught:
                least_base(taken, None, None)
            self.assertEqual(caught.exception.part, "taken")
        for many in (0, 17, True, None, 1.0):
            with self.assertRaises(BadNumber) as caught:
                least_base([(1, 1), (3, 1)], many, None)
            self.assertEqual(caught.exception.part, "many")
        for hint in (0, -1, True, None, 1.0):
            with self.assertRaises(BadNumber) as caught:
                least_base([], 1, hint)
            self.assertEqual(caught.exception.part, "hint")


class Flats(unittest.TestCase):
    def test_by_hand(self):
        body = (("make", "p", "int", I(2)), ("store", L("p"), I(-5)), ("away", L("p")), ("make", "o", "byte", I(1)), ("return",))
        made = program(body, (("p", P), ("o", ("to", "byte"))), (("s", "int", 1), ("t", P, 1)), (), (("m", "byte", 1),))
        # Hints for s, t, m and the first made block; the second one has none.
        layout = (9, (5, 1, 5, 2))
        first = flat_begun(program=made, layout=layout)
        self.assertEqual((first.program, first.layout), (made, layout))
        self.assertEqual(list(first.cells.items()), [(1, 0), (2, 9), (5, 0), (6, 9), (7, 9), (8, 9)])
        self.assertEqual(taken_by(first), ((1, 1, 1), (5, 0, 1), (7, 2, 1)))
        flats = flat_run(made, layout, [], [0] * 5)
        # Three addresses from 2 on do not fit beside 1 to 2 and 5 to 6.
        self.assertEqual(taken_by(flats[1]), ((1, 1, 1), (5, 0, 1), (7, 2, 1), (9, 3, 1)))
        self.assertEqual(flats[2].cells, {1: 0, 2: 9, 5: 0, 6: 9, 7: 9, 8: 9, 9: -5, 10: 9, 11: 9})
        self.assertEqual(flats[3].cells, {1: 0, 2: 9, 5: 0, 6: 9, 7: 9, 8: 9, 9: 9, 10: 9, 11: 9})
        self.assertEqual(taken_by(flats[4]), ((1, 1, 1), (5, 0, 1), (7, 2, 1), (12, 3, 2)))
        self.assertEqual(taken_by(flats[5]), ((1, 1, 1), (5, 0, 1), (12, 3, 2)))
        self.assertEqual(flats[1].cells, {**first.cells, 9: 9, 10: 9, 11: 9})
        for pointer, address in (((0, 0, 0), 0), ((0, 1, 0), 5), ((0, 1, 1), 6), ((3, 1, 2), 11), ((3, 2, 0), 12)):
            self.assertEqual(address_of(flats[5], pointer), address)
        self.assertEqual(flat_begun(program(()), (1, ())).cells, {})

    def test_pointers_are_addresses(self):
        made = program((("store", ("shared", "t"), ("on", ("shared", "s"), I(2))), ("make", "p", "int", I(1)),
                        ("store", ("shared", "t"), L("p")), ("away", L("p")), ("store", ("shared", "t"), ("null", "int"))),
                       (("p", P),), (("s", "int", 2), ("t", P, 1)))
        flats = flat_run(made, (3, (10, 20, 1)), [], [0] * 5)
        self.assertEqual([flat.cells[20] for flat in flats], [0, 12, 12, 1, 1, 0])
        self.assertEqual([moment_told(flat).memory[1][2] for flat in flats],
                         [((0, 0, 0),), ((0, 1, 2),), ((0, 1, 2),), ((2, 1, 0),), ((2, 1, 0),), ((0, 0, 0),)])

    def test_heart(self):
        words, again = set(), 0
        rows = all_runs(60, first=70)
        for seed in range(6):
            rows.append((coming_and_going(), [], weaving_of(begun(coming_and_going()), [], 60, seed)))
        for number, (made, inputs, weaving) in enumerate(rows):
            moments, _ = run(begun(made), inputs, weaving)
            wrong = first_wrong(begun(made), inputs, weaving)
            words.add(wrong and wrong[2])
            for layout in layouts(number) + [(1, (1,) * 100)]:
                flat = flat_begun(made, layout)
                self.assertEqual(moment_told(flat), begun(made))
                flats = flat_run(made, layout, inputs, weaving)
                self.assertEqual([moment_told(one) for one in flats], moments)
                self.assertEqual(flat_first_wrong(made, layout, inputs, weaving), wrong)
                for place, (one, moment) in enumerate(zip(flats, moments)):
                    self.assertEqual(list(one.cells), sorted(one.cells))
                    kept = (dict(one.cells), moment_told(one), taken_by(one))
                    for thread in range(len(made.threads)):
                        for given in (inputs, []):
                            first = outcome(lambda: stepped(moment, thread, given)[0])
                            other = outcome(lambda: flat_step(one, thread, given))
                            if isinstance(first, Moment):
                                self.assertEqual(moment_told(other), first)
                                self.assertEqual(len(set(one.cells) - set(other.cells)), 0)
                            else:
                                self.assertEqual(other, first)
                    self.assertEqual(kept, (one.cells, moment_told(one), taken_by(one)))
                    self.check_cells(one, moment)
                again += self.used_again(flats)
        self.assertEqual(words, {None} | set(by_words()))
        self.assertGreater(again, 10)

    def check_cells(self, flat, moment):
        """What each address holds, from the moment and address_of."""
        taken = {}
        for base, slot, life in taken_by(flat):
            self.assertEqual(moment.lives[slot], 2 * life - 1)
            how, sort, cells = moment.memory[slot]
            self.assertEqual(address_of(flat, (slot, life, 0)), base)
            for offset, value in enumerate(cells + (None,)):
                self.assertNotIn(base + offset, taken)
                taken[base + offset] = flat.layout[0] if value is None else value
                if isinstance(value, tuple):
                    taken[base + offset] = address_of(flat, value)
        self.assertEqual(len(taken_by(flat)), len(moment.memory))
        for address, number in flat.cells.items():
            self.assertEqual(number, taken.get(address, flat.layout[0]))
        self.assertLessEqual(set(taken), set(flat.cells))

    def used_again(self, flats):
        """Whether an address was taken by two blocks, one after the other."""
        seen = {}
        for flat in flats:
            for base, slot, life in taken_by(flat):
                if seen.setdefault(base, (slot, life)) != (slot, life):
                    return 1
        return 0

    def test_each_layout_of_a_run(self):
        """The bases of a run as hints make its layout again."""
        for number, (made, inputs, weaving) in enumerate(runs(20, first=500)):
            for layout in layouts(number):
                flats = flat_run(made, layout, inputs, weaving)
                came = []
                for flat in flats:
                    # Those of one step come in the sequence of their slots.
                    rows = sorted((slot, life, base) for base, slot, life in taken_by(flat))
                    came += [row for row in rows if row not in came]
                other = (layout[0], tuple(base for _, _, base in came))
                if max(other[1], default=1) <= 2 ** 20:
                    for one, two in zip(flats, flat_run(made, other, inputs, weaving)):
                        self.assertEqual((one.cells, taken_by(one)), (two.cells, taken_by(two)))

    def test_refusals(self):
        made = program((("ask", "x", 0, 1),), (("x", "int"),))
        for thing in (None, 1, begun(made)):
            for call in (lambda: moment_told(thing), lambda: address_of(thing, None), lambda: taken_by(thing),
                         lambda: flat_step(thing, -1, None)):
                with self.assertRaises(BadFlat):
                    call()
            for call in (lambda: flat_begun(thing, None), lambda: flat_run(thing, 1, 1, 1), lambda: flat_first_wrong(thing, 1, 1, 1)):
                with self.assertRaises(BadTree) as caught:
                    call()
                self.assertIsNone(caught.exception.at)
        for layout in (None, (0, (0,)), [0, ()]):
            for call in (lambda: flat_begun(made, layout), lambda: flat_run(made, layout, None, None),
                         lambda: flat_first_wrong(made, layout, None, None)):
                with self.assertRaises(BadLayout) as caught:
                    call()
                self.assertEqual(caught.exception.part, "layout")
        first = flat_begun(made, (0, ()))
        for inputs in (None, [True], [HIGH + 1]):
            for call in (lambda: flat_step(first, 0, inputs), lambda: flat_run(made, (0, ()), inputs, None),
                         lambda: flat_first_wrong(made, (0, ()), inputs, None)):
                with self.assertRaises(BadInputs):
                    call()
        for weaving in (None, [1], [True]):
            for call in (flat_run, flat_first_wrong):
                with self.assertRaises(BadNumber) as caught:
                    call(made, (0, ()), [], weaving)
                self.assertEqual(caught.exception.part, "weaving")
        for thread in (-1, 1, True, None):
            with self.assertRaises(BadNumber) as caught:
                flat_step(first, thread, None)
            self.assertEqual(caught.exception.part, "thread")
        for inputs, weaving, why in (([], [0], "inputs"), ([1], [0, 0, 0], "ended")):
            for call in (flat_run, flat_first_wrong):
                with self.assertRaises(NotNow) as caught:
                    call(program=made, layout=(0, ()), inputs=inputs, weaving=weaving)
                self.assertEqual(caught.exception.why, why)
        with self.assertRaises(BadInputs):
            flat_step(first, 0, [2])

    def test_addresses_refused(self):
        made = program((), (), (("s", "int", 2),))
        first = flat_begun(made, (0, (3,)))
        self.assertEqual([address_of(flat=first, pointer=(0, 1, offset)) for offset in range(3)], [3, 4, 5])
        for pointer in (None, 1, (), (0, 1), [0, 1, 0], (0, 1, 0, 0), (0, 1, 3), (0, 1, -1), (0, 1, True), (False, 1, 0), (0, 2, 0),
                        (1, 1, 0), (0, 0, 1), (False, 0, 0), (0, 1.0, 0), (None, None, None)):
            with self.assertRaises(BadMoment) as caught:
                address_of(first, pointer)
            self.assertEqual(caught.exception.part, "pointer")

    def test_spill(self):
        for n in range(10):
            for m in (0, 1):
                weaving, wrong = [0] * (25 + 3 * n), None
                if n < 4:
                    wrong = (4 + 3 * n, 0, "unset")
                elif n > 4:
                    wrong = (16, 0, "beyond")
                elif m == 1:
                    wrong = (20, 0, "gone")
                else:
                    weaving = weaving_of(begun(spill()), [n, m], 60, 0)
                for layout in layouts(n):
                    self.assertEqual(flat_first_wrong(spill(), layout, [n, m], weaving), wrong)


class Bares(unittest.TestCase):
    def test_clean_runs_show_what_the_steps_read(self):
        done = 0
        for number, (made, inputs, weaving) in enumerate(all_runs(120, first=200)):
            wrong = first_wrong(begun(made), inputs, weaving)
            clean = weaving if wrong is None else weaving[:wrong[0]]
            shows = seen_by_steps(made, inputs, clean)
            done += len(clean)
            for layout in layouts(number):
                self.assertEqual(bare_run(made, layout, inputs, clean), tuple(shows))
                self.assertEqual(bare_run(made, layout, inputs, weaving)[:len(clean)], tuple(shows))
        self.assertGreater(done, 1000)

    def test_examples(self):
        for seed in range(5):
            weaving = weaving_of(begun(tally()), [], 100, seed)
            for layout in layouts(seed):
                flats = flat_run(tally(), layout, [], weaving)
                self.assertEqual(moment_told(flats[-1]).given[-1], 6)
                shows = bare_run(program=tally(), layout=layout, inputs=[], weaving=weaving)
                self.assertEqual([read for word, read in shows if word == "give"][-1], (6,))
        inputs = [5, 3, -1, 3, HIGH, LOW]
        weaving = weaving_of(begun(sorter()), inputs, 300, 0)
        for layout in layouts(3):
            last = moment_told(flat_run(sorter(), layout, inputs, weaving)[-1])
            self.assertEqual((last.given, last.memory), ((LOW, -1, 3, 3, HIGH), {}))

    def shows(self, body, layout=(7, ()), inputs=(), many=9, weaving=None, **more):
        made = program(body, (("x", "int"), ("b", "byte"), ("p", P), ("q", ("to", "byte")), ("r", ("to", P))), **more)
        return bare_run(made, layout, list(inputs), weaving if weaving is not None else [0] * many)

    def last(self, *body, layout=(7, ()), **more):
        """What is read by the last statement of a body."""
        return self.shows(body, layout, many=len(body), **more)[-1][1]

    def test_unset_and_stray(self):
        s = {"shared": (("s", "int", 2),)}
        self.assertEqual(self.last(("give", L("x"))), (7,))
        self.assertEqual(self.last(("let", "b", L("b")), layout=(-1, ())), (255,))
        self.assertEqual(self.last(("let", "b", L("b")), layout=(300, ())), (44,))
        self.assertEqual(self.last(("give", ("at", ("null", "int")))), (7,))
        # Address 7 is that of no block; s stands at 1 to 3.
        self.assertEqual(self.last(("store", L("p"), I(5)), ("give", ("at", ("on", ("shared", "s"), I(6)))), **s), (5,))
        self.assertEqual(self.last(("store", ("null", "int"), I(5)), ("give", ("at", ("null", "int")))), (5,))
        self.assertEqual(self.last(("give", ("at", ("on", ("shared", "s"), I(2)))), **s), (7,))
        self.assertEqual(self.last(("store", ("on", ("shared", "s"), I(-2)), I(9)),
                                   ("give", ("at", ("on", ("null", "int"), I(-1)))), **s), (9,))
        # An int read as a byte, a pointer read as an int.
        self.assertEqual(self.last(("let", "p", ("shared", "s")), ("store", ("on", L("p"), I(3)), I(-2)),
                                   ("let", "x", ("gap", ("on", ("null", "byte"), I(4)), ("null", "byte"))),
                                   ("let", "b", ("at", ("on", ("null", "byte"), I(4)))), **s), (254,))

    def test_numbers(self):
        for e, value in ((("sum", I(HIGH), I(1)), LOW), (("less", I(LOW), I(1)), HIGH), (("times", I(65536), I(65536)), 0),
                         (("times", I(65537), I(65536)), 65536), (("share", I(LOW), I(-1)), LOW), (("share", I(5), I(0)), 0),
                         (("rest", I(5), I(0)), 0), (("rest", I(-7), I(2)), 1), (("share", I(-7), I(2)), -4),
                         (("gap", ("null", "int"), ("shared", "s")), -1), (("below", ("shared", "s"), ("null", "int")), 0),
                         (("below", ("null", "int"), ("shared", "s")), 1), (("same", ("shared", "s"), ("on", ("null", "int"), I(1))), 1),
                         (("below", ("null", "int"), ("on", ("null", "int"), I(-1))), 1),
                         (("gap", ("on", ("null", "int"), I(-1)), ("null", "int")), -1), (("wide", ("low", I(-1))), 255),
                         (("not", I(0)), 1), (("and", I(2), I(3)), 1), (("or", I(0), I(0)), 0)):
            self.assertEqual(self.last(("let", "x", e), ("give", L("x")), shared=(("s", "int", 1),)), (value,), e)
        for e, value in ((("sum", ("byte", 200), ("byte", 100)), 44), (("share", ("byte", 1), ("byte", 0)), 0),
                         (("rest", ("byte", 1), ("byte", 0)), 0), (("less", ("byte", 0), ("byte", 1)), 255)):
            self.assertEqual(self.last(("let", "b", e), ("let", "b", L("b"))), (value,))

    def test_blocks(self):
        # Of 0 cells one is made, of 99 sixteen: the next block stands behind them.
        for many, gap in ((0, 2), (-5, 2), (1, 2), (16, 17), (99, 17)):
            self.assertEqual(self.last(("make", "p", "int", I(many)), ("make", "q", "byte", I(1)), ("let", "x", ("gap", L("p"), L("p"))),
                                       ("make", "r", P, I(1)), ("store", L("p"), I(0)),
                                       ("if", ("same", ("on", L("p"), I(gap)), ("on", ("null", "int"), I(1 + gap))), (), ())), ())
            self.assertEqual(self.last(("make", "p", "int", I(many)), ("make", "r", P, I(1)), ("store", L("r"), L("p")),
                                       ("let", "x", ("gap", ("at", L("r")), ("null", "int"))),
                                       ("give", ("at", ("on", L("p"), I(gap))))), (1,))
        # away of what is no base of a made block does nothing.
        s = {"shared": (("s", "int", 1),)}
        self.assertEqual(self.last(("store", ("shared", "s"), I(3)), ("away", ("shared", "s")), ("away", ("null", "int")),
                                   ("make", "p", "int", I(2)), ("store", L("p"), I(4)), ("away", ("on", L("p"), I(1))),
                                   ("give", ("sum", ("at", ("shared", "s")), ("at", L("p")))), **s), (3, 4))
        self.assertEqual(self.last(("make", "p", "int", I(2)), ("store", L("p"), I(4)), ("away", L("p")), ("give", ("at", L("p")))), (7,))
        # A hint puts the next block where the first one was; the old pointer reads it.
        self.assertEqual(self.last(("make", "p", "int", I(2)), ("away", L("p")), ("make", "q", "byte", I(2)),
                                   ("store", L("q"), ("byte", 200)), ("give", ("at", L("p"))), layout=(7, (3, 3))), (200,))

    def test_32_blocks_at_a_time(self):
        body = (("make", "p", "int", I(1)),) * 32 + (("store", L("p"), I(1)), ("make", "p", "int", I(1)), ("store", L("p"), I(2)),
                                                    ("give", ("at", ("null", "int"))))
        self.assertEqual(self.last(*body), (2,))
        call = ("f", (), (), (("m", "int", 1),), "int", (("return", I(3)),))
        shows = self.shows(body[:32] + (("call", "x", "f", ()), ("give", L("x"))), many=34, more=(call,))
        # The call is passed by: there is no slot for its block.
        self.assertEqual(shows[-2:], (("call", ()), ("give", (7,))))

    def test_calls(self):
        more = (("f", (("a", "int"),), (("c", "int"),), (), "int", (("if", ("below", L("a"), I(0)), (), (("return", L("a")),)),)),)
        shows = self.shows((("call", "x", "f", (I(4),)), ("give", L("x")), ("call", "x", "f", (I(-1),)), ("give", L("x"))), many=10,
                           more=more)
        self.assertEqual(shows, (("call", ()), ("if", (4,)), ("return", (4,)), ("give", (4,)), ("call", ()), ("if", (-1,)), ("end", ()),
                                 ("give", (7,)), ("end", ()), None))
        made = program((("call", "x", "main", ()), ("give", L("x"))), (("x", "int"),), result="int")
        shows = bare_run(made, (6, ()), [], [0] * 40)
        self.assertEqual(shows[:14], (("call", ()),) * 12 + (("give", (6,)), ("end", ())))
        self.assertEqual(shows[35:], (("end", ()), None, None, None, None))

    def test_what_is_passed_by(self):
        ask = (("ask", "x", 0, 5), ("give", L("x")))
        self.assertEqual(self.shows(ask, inputs=[3], many=4), (("ask", ()), ("give", (3,)), ("end", ()), None))
        self.assertEqual(self.shows(ask, inputs=[6], many=2), (None, None))
        self.assertEqual(self.shows(ask, inputs=[], many=2), (None, None))
        lock = (("take", "k"), ("take", "k"), ("leave", "k"), ("leave", "k"))
        shows = self.shows(lock, locks=("k",), threads=("main", "main"), weaving=[0, 1, 0, 1, 0, 1, 0, 1, 0])
        take, leave = ("take", ()), ("leave", ())
        self.assertEqual(shows, (take, None, take, None, leave, take, leave, take, ("end", ())))
        # leave of what another thread holds does nothing.
        shows = self.shows((("if", I(1), (("leave", "k"),), ()), ("take", "k")), locks=("k",), threads=("main", "main"),
                           weaving=[0, 0, 0, 1, 1, 1, 0, 1])
        self.assertEqual(shows, (("if", ()), leave, take, ("if", ()), leave, None, ("end", ()), None))

    def test_told_apart(self):
        for number, (made, inputs, weaving) in enumerate(all_runs(100, first=600)):
            wrong = first_wrong(begun(made), inputs, weaving)
            rows = layouts(number, 4)
            for one in rows:
                for other in rows:
                    place = told_apart(made, inputs, weaving, one, other)
                    self.assertEqual(place, told_apart(made, inputs, weaving, other, one))
                    self.assertEqual(one == other and place is not None, False)
                    if wrong is None:
                        self.assertIsNone(place)
                    elif place is not None:
                        self.assertGreaterEqual(place, wrong[0])
                    first, second = bare_run(made, one, inputs, weaving), bare_run(made, other, inputs, weaving)
                    plain = [k for k in range(len(weaving)) if first[k] != second[k]]
                    self.assertEqual(place, plain[0] if plain else None)

    def test_told_apart_at_the_first_wrong_reading(self):
        p, q, make, away = L("p"), L("q"), ("make", "p", "int", I(1)), ("away", L("p"))
        bytes_ = (("make", "q", "byte", I(2)), ("away", L("q")))
        s, m = ("shared", "s"), ("block", "m")
        for made in (read_of(L("y"), "x", "int"), read_of(("sum", I(1), L("y")), "x", "int"), read_of(L("b"), "b", "byte"),
                     read_of(("at", m), "b", "byte"), read_of(("at", p), "x", "int", make), read_of(("at", ("null", "int")), "x", "int"),
                     read_of(("at", ("null", "byte")), "b", "byte"), read_of(("at", p), "x", "int", make, away),
                     read_of(("at", q), "b", "byte", *bytes_), read_of(("at", ("on", s, I(2))), "x", "int"),
                     read_of(("at", ("on", m, I(2))), "b", "byte"), read_of(I(1), "x", "int", ("give", ("not", L("y")))),
                     read_of(I(1), "x", "int", ("if", L("y"), (), ()))):
            weaving = weaving_of(begun(made), [], 30, 0)
            place = first_wrong(begun(made), [], weaving)[0]
            self.assertEqual(place, len(weaving) - 1)
            for one, other in ((0, 1), (5, -7), (LOW, HIGH), (255, 256)):
                self.assertEqual(told_apart(made, [], weaving, (one, ()), (other, ())), place)
            self.assertIsNone(told_apart(program=made, inputs=[], weaving=weaving, one=(3, ()), other=(3, ())))

    def test_refusals(self):
        made = program((("give", I(1)),))
        for thing in (None, begun(made)):
            for call in (lambda: bare_run(thing, 1, 1, 1), lambda: told_apart(thing, 1, 1, 1, 1)):
                with self.assertRaises(BadTree):
                    call()
        for layout in (None, (0, (0,)), [0, ()]):
            for call, part in ((lambda: bare_run(made, layout, None, None), "layout"),
                               (lambda: told_apart(made, [], [], layout, None), "one"),
                               (lambda: told_apart(made, [], [], (0, ()), layout), "other")):
                with self.assertRaises(BadLayout) as caught:
                    call()
                self.assertEqual(caught.exception.part, part)
        for inputs in (None, [True], [2 ** 31]):
            for call in (lambda: bare_run(made, (0, ()), inputs, None), lambda: told_apart(made, inputs, None, 1, 1)):
                with self.assertRaises(BadInputs):
                    call()
        for weaving in (None, [1], [False]):
            for call in (lambda: bare_run(made, (0, ()), [], weaving), lambda: told_apart(made, [], weaving, 1, 1)):
                with self.assertRaises(BadNumber) as caught:
                    call()
                self.assertEqual(caught.exception.part, "weaving")
        # Inputs are not changed, and nothing of a run is kept for the next one.
        inputs = [1]
        ask = program((("ask", "x", 0, 1), ("give", L("x"))), (("x", "int"),))
        self.assertEqual(bare_run(ask, (0, ()), inputs, (0, 0)), bare_run(ask, (0, ()), tuple(inputs), [0, 0]))
        self.assertEqual(inputs, [1])


if __name__ == "__main__":
    unittest.main()
