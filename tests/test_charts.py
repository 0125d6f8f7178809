"""Points 44 to 48: traits, charts, and checks that are needless, against a second version written word by word."""

import random
import unittest

from made import I, L, by_words, program, sorter, spill, tally
from plaincharts import Plain, Wary
from firstwrong.closings import chart_of, is_closed_chart
from firstwrong.codemoments import CodeMoment, code_begun
from firstwrong.codes import Code, checks_of, code_of, instruction_of, without
from firstwrong.codesteps import code_can_step, code_run, code_stepped
from firstwrong.errors import BadChart, BadCode, BadInputs, Lost, NotNow, WrongError
from firstwrong.sparing import needless, spared
from firstwrong.traits import bands_of, sites_of
from firstwrong.trees import Program

LEAST, MOST = -(2 ** 31), 2 ** 31 - 1
P, X, Y, Q = L("p"), L("x"), L("y"), L("q")
PTR = ("to", "int")
LOCALS = (("p", PTR), ("q", PTR), ("x", "int"), ("y", "int"), ("b", "byte"))
SHARED = (("s", "int", 3), ("t", PTR, 2))
NULL = ("null", "int")
UNSET = ("unset",)


def band(low, high=None):
    return ("band", low, low if high is None else high)


def of(body, locals_=LOCALS, **more):
    return program(body, locals_, SHARED, ("k",), (("m", "int", 2),), **more)


def by_hand():
    """Small programs with each kind of line."""
    loop = (("let", "x", I(0)), ("let", "p", ("shared", "s")),
            ("while", ("below", X, I(3)), (("store", ("on", P, X), X), ("let", "x", ("sum", X, I(1))))),
            ("give", ("at", ("on", P, I(2)))))
    looked = (("make", "p", "int", I(4)), ("if", ("same", P, NULL), (("return",),), ()), ("store", P, I(7)), ("give", ("at", P)),
              ("give", ("at", ("on", P, I(1)))))
    rests = (("ask", "x", -9, 300), ("ask", "y", 1, 16), ("give", ("rest", X, Y)), ("give", ("share", X, Y)), ("give", ("rest", X, ("less", I(0), Y))),
             ("let", "b", ("low", X)), ("give", ("share", ("wide", ("rest", ("byte", 9), L("b"))), ("sum", Y, I(0)))),
             ("give", ("at", ("on", ("shared", "s"), ("rest", X, I(3))))))
    given_on = Program((SHARED, (), (
        ("main", (), LOCALS, (("m", "int", 2),), "none", (("store", ("block", "m"), I(1)), ("call", "q", "f", (("block", "m"), I(1))), ("give", ("at", L("q"))),
                                                          ("store", ("shared", "t"), ("block", "m")), ("give", ("at", ("at", ("shared", "t")))))),
        ("f", (("p", PTR), ("x", "int")), (("q", PTR),), (("n", "int", 1),), PTR, (
            ("if", X, (("return", P),), ()), ("if", ("same", P, ("block", "n")), (("return", ("block", "n")),), ()), ("return", ("on", P, I(1)))))), ("main",)))
    itself = Program(((), (), (
        ("f", (("x", "int"),), (("y", "int"),), (), "int", (("if", ("below", X, I(1)), (("return", I(0)),), ()),
                                                           ("call", "y", "f", (("less", X, I(1)),)), ("return", ("sum", X, Y)))),
        ("main", (), (("x", "int"),), (), "none", (("call", "x", "f", (I(5),)), ("give", X), ("call", "", "never", ()), ("give", X))),
        ("never", (), (), (), "int", (("while", I(1), ()),))), ("main", "main")))
    back = (("make", "p", "int", I(2)), ("make", "q", "int", I(3)), ("away", P), ("away", Q), ("away", ("on", Q, I(0))))
    gone = (("make", "p", "int", I(2)), ("if", ("same", P, NULL), (("return",),), ()), ("store", P, I(1)), ("away", P), ("give", ("at", P)))
    tests = (("ask", "x", 0, 9), ("if", ("and", ("not", ("same", X, I(4))), ("or", ("below", X, I(2)), X)), (("give", X),), (("give", I(0)),)),
             ("if", ("or", ("below", I(9), X), ("same", X, X)), (), (("give", ("at", NULL)),)), ("while", ("below", X, I(300)), (("let", "x", ("times", X, I(2))),)))
    gaps = (("let", "p", ("on", ("block", "m"), I(1))), ("give", ("gap", P, ("block", "m"))), ("give", ("below", ("block", "m"), P)), ("give", ("below", P, ("shared", "s"))),
            ("give", ("gap", NULL, NULL)), ("give", ("same", ("at", ("shared", "t")), P)))
    locks = (("take", "k"), ("give", ("at", ("shared", "s"))), ("leave", "k"), ("take", "k"))
    ends = Program(((), (), (("main", (), (("x", "int"),), (), "none", (("call", "x", "f", ()), ("give", X))),
                             ("f", (), (("y", "int"),), (("n", "int", 1),), "int", (("ask", "y", 0, 1), ("if", Y, (("return", I(3)),), ())))), ("main", "f")))
    unset = (("give", X), ("let", "y", I(1)), ("give", Y))
    found = [of(body) for body in (loop, looked, rests, back, gone, tests, gaps, locks, unset, ())] + [given_on, itself, ends]
    return found + [spill(), tally(), sorter(), Program(((), (), (), ()))] + [made for rows in by_words().values() for made in rows]


HAND = by_hand()
CODES = [code_of(made) for made in HAND]
RANDOM = [code_of(Wary(seed).program()) for seed in range(60)]


def some_run(code, seed, many=70):
    """A run of a code from its beginning: inputs and weaving."""
    dice = random.Random(seed)
    inputs = [dice.choice((0, 1, 1, 0, 2, 5, 9, 300)) if seed % 3 == 0 else dice.randint(0, 1) for _ in range(60)]
    moment, weaving = code_begun(code), []
    for _ in range(many):
        ready = [thread for thread in range(len(code.threads)) if code_can_step(moment, thread)]
        if not ready:
            break
        thread = dice.choice(ready)
        try:
            moment = code_stepped(moment, thread, inputs)[0]
        except (BadInputs, NotNow):
            break
        weaving.append(thread)
    return inputs, weaving


class Traits(unittest.TestCase):
    def test_bands(self):
        plain = ((LEAST, LEAST), (LEAST + 1, -2), (-1, -1), (0, 0), (1, 1), (2, 254), (255, 255), (256, 256), (257, MOST - 1), (MOST, MOST))
        self.assertEqual(bands_of(code_of(Program(((), (), (), ())))), plain)
        code = code_of(of((("ask", "x", -3, 3), ("let", "b", ("byte", 7)), ("give", I(2)), ("give", I(LEAST + 1)), ("give", I(MOST - 1)))))
        self.assertEqual(bands_of(code), ((LEAST, LEAST), (LEAST + 1, LEAST + 1), (LEAST + 2, -4), (-3, -3), (-2, -2), (-1, -1), (0, 0), (1, 1), (2, 2), (3, 3),
                                          (4, 6), (7, 7), (8, 254), (255, 255), (256, 256), (257, MOST - 2), (MOST - 1, MOST - 1), (MOST, MOST)))
        for code in CODES + RANDOM:
            bands = bands_of(code)
            self.assertEqual((bands[0][0], bands[-1][1]), (LEAST, MOST))
            self.assertTrue(all(one[1] + 1 == other[0] for one, other in zip(bands, bands[1:])))
        # Those of the ops, be a line come to or not.
        alone = Code(((), (), (("f", (), (("x", "int"),), (), "none"),), ()), ((((("int", 77), ("let", "x")), (0,)),),))
        self.assertIn((77, 77), bands_of(alone))

    def test_sites(self):
        code = code_of(of((("let", "x", I(1)), ("make", "p", "int", X), ("make", "q", "int", I(2)))))
        self.assertEqual(sites_of(code), ((("local", 0, 0), "int"), (("made", 0, 1), "int"), (("made", 0, 2), "int"), (("shared", 0), "int"), (("shared", 1), PTR)))
        code = code_of(HAND[10])
        self.assertEqual(sites_of(code), ((("local", 0, 0), "int"), (("local", 1, 0), "int"), (("shared", 0), "int"), (("shared", 1), PTR)))
        for thing in (None, 5, HAND[0]):
            for call in (bands_of, sites_of, chart_of, lambda c: is_closed_chart(c, None), lambda c: needless(c, None), lambda c: spared(c, None)):
                with self.assertRaises(BadCode) as caught:
                    call(thing)
                self.assertIsNone(caught.exception.at)


class Least(unittest.TestCase):
    def test_by_hand(self):
        """A chart worked out by hand: a block made, looked at for null, written."""
        body = (("make", "p", "int", I(1)), ("if", ("same", P, NULL), (("return",),), ()), ("store", P, I(7)))
        code = code_of(program(body, (("p", PTR),)))
        site = ("made", 0, 0)
        place = ("to", site, 1, 0, 0)
        got, known, none = ((("null",), place),), ((place,),), ((("null",),),)
        lines = [instruction_of(code, 0, position)[0] for position in range(4)]
        self.assertEqual(lines, ["make", "test", "return", "store"])
        self.assertEqual(chart_of(code), (((band(7), UNSET),), (), ((),), (1,), (((((UNSET,),), got, none, known, known)),)))
        # Of a "same" with null neither check is needed, nor are those of the store.
        self.assertEqual(needless(code, chart_of(code)), checks_of(code))

    def test_against_word_by_word(self):
        for code in CODES + RANDOM:
            chart = chart_of(code)
            plain = Plain(code)
            self.assertEqual(chart, plain.least())
            self.assertTrue(is_closed_chart(code, chart))
            self.assertEqual(needless(code, chart), plain.needless(chart))
            self.assertEqual(spared(code, chart), without(code, plain.needless(chart)))

    def test_of_codes_without_checks(self):
        """What is left out does not count; only checks that are there are told."""
        for number, code in enumerate(CODES):
            checks = checks_of(code)
            some = random.Random(number).sample(checks, len(checks) // 2)
            less = without(code, some)
            self.assertEqual(chart_of(less), chart_of(code))
            self.assertEqual(needless(less, chart_of(code)), Plain(less).needless(chart_of(code)))

    def test_no_end(self):
        """What is never come to has no guess; what follows a call that never comes back has none."""
        code = CODES[11]
        main = chart_of(code)[4][1]
        self.assertEqual([guess is None for guess in main], [False, False, False, True, True])
        self.assertIsNone(chart_of(code)[2][2])
        self.assertEqual(chart_of(code)[3], (12, 1, 2))

    def test_codes_by_hand(self):
        """Goals that no program has: a line that leads to itself, one that is not come to."""
        head = ((), (), (("f", (), (("x", "int"),), (), "int"),), ("f",))
        lines = ((((("int", 3), ("let", "x")), (2,)), ((("local", "x"), ("give",)), (1,)), ((("local", "x"), ("test",)), (2, 3))),)
        code = Code(head, lines)
        chart = chart_of(code)
        self.assertEqual(chart[4], ((((UNSET,),), None, ((band(3),),), None),))
        self.assertEqual(chart[2], (None,))
        self.assertEqual(chart, Plain(code).least())


def smaller(chart):
    """Charts near to one: something less, or another thing."""
    cells, gives, results, deep, guesses = chart
    for number, lot in enumerate(cells):
        for place in range(len(lot)):
            yield (cells[:number] + (lot[:place] + lot[place + 1:],) + cells[number + 1:], gives, results, deep, guesses)
    for number in range(len(gives)):
        yield (cells, gives[:number] + gives[number + 1:], results, deep, guesses)
    for number, lot in enumerate(results):
        for less in ([None] + [lot[:place] + lot[place + 1:] for place in range(len(lot))] if lot is not None else []):
            yield (cells, gives, results[:number] + (less,) + results[number + 1:], deep, guesses)
    for number, many in enumerate(deep):
        if many:
            yield (cells, gives, results, deep[:number] + (many - 1,) + deep[number + 1:], guesses)
    for function, row in enumerate(guesses):
        for position, guess in enumerate(row):
            fewer = [None] if guess is not None else []
            for number, lot in enumerate(guess or ()):
                fewer += [guess[:number] + (lot[:place] + lot[place + 1:],) + guess[number + 1:] for place in range(len(lot))]
            for less in fewer:
                yield (cells, gives, results, deep, guesses[:function] + (row[:position] + (less,) + row[position + 1:],) + guesses[function + 1:])


def all_traits(plain, sort, many=40):
    """Traits of a sort, not too many."""
    if not isinstance(sort, tuple):
        found = [band(low, high) for low, high in plain.bands if sort == "int" or (0 <= low and high <= 255)]
    else:
        found = [("null",)] + [("to", site, cells, spot, firm) for site in plain.sites if plain.sorts[site] == sort[1] for cells in plain.manies(site)
                               for spot in range(cells + 1) for firm in ((0, 1, 2) if site[0] == "local" else (0,))]
    return [UNSET] + random.Random(many).sample(found, min(len(found), many))


def greater(code, chart, seed):
    """A closed chart with more than it needs."""
    dice = random.Random(seed)
    plain = Plain(code)
    grown = plain.of_told(chart)
    cells, gives, results, deep, guesses = grown
    for site in plain.sites:
        if dice.random() < 0.3:
            cells[site] |= {dice.choice(all_traits(plain, plain.sorts[site]))}
        if site[0] == "made" and dice.random() < 0.2:
            gives.add(site)
    for function, head in enumerate(code.functions):
        if dice.random() < 0.3:
            deep[function] = dice.randint(deep[function], 12)
        words = [(word, sort) for word, sort in head[1] + head[2]]
        for position, guess in enumerate(guesses[function]):
            if guess is None and dice.random() < 0.2:
                guesses[function][position] = {word: {dice.choice(all_traits(plain, sort))} for word, sort in words}
            elif guess and dice.random() < 0.3:
                word, sort = dice.choice(words)
                guess[word] = guess[word] | {dice.choice(all_traits(plain, sort))}
    going = True
    while going:
        going = False
        for demand in plain.all_demands(grown):
            going |= plain.meet(grown, demand)
    return plain.told(grown)


class Closed(unittest.TestCase):
    def test_nothing_can_be_left_out(self):
        for code in CODES[:17]:
            chart = chart_of(code)
            for less in smaller(chart):
                self.assertFalse(is_closed_chart(code, less))

    def test_greater_ones(self):
        """Closed ones have all that the least one has, and show no check needless that it does not show."""
        unlike = 0
        for number, code in enumerate(CODES + RANDOM[:8]):
            least = chart_of(code)
            shown = set(needless(code, least))
            for seed in range(2):
                chart = greater(code, least, 10 * number + seed)
                self.assertTrue(is_closed_chart(code, chart))
                self.assertLessEqual(set(needless(code, chart)), shown)
                self.assertEqual(needless(code, chart), Plain(code).needless(chart))
                unlike += set(needless(code, chart)) != shown
                for near in random.Random(seed).sample(list(smaller(chart)), 5) if seed == 0 and len(list(smaller(chart))) > 5 else ():
                    if all(guess is None or all(guess) for row in near[4] for guess in row) and () not in [r for r, h in zip(near[2], code.functions) if h[4] != "none"]:
                        self.assertEqual(is_closed_chart(code, near), Plain(code).is_closed(near))
        self.assertGreater(unlike, 10)

    def test_shapes(self):
        code = CODES[0]
        chart = chart_of(code)
        cells, gives, results, deep, guesses = chart
        put = lambda row, place, thing: row[:place] + (thing,) + row[place + 1:]
        # At the end more does no harm.
        end = guesses[0][-1]
        self.assertEqual((end[0], end[2]), ((("to", ("shared", 0), 3, 0, 0),), (band(3),)))
        at = lambda lot: (cells, gives, results, deep, (guesses[0][:-1] + (put(end, 2, lot),),))
        self.assertTrue(is_closed_chart(code, at((band(3), UNSET))))
        self.assertTrue(is_closed_chart(code, at((band(-1), band(3), UNSET))))
        pointers = lambda lot: (cells, gives, results, deep, (guesses[0][:-1] + (put(end, 0, lot),),))
        local, shared = ("local", 0, 0), ("shared", 0)
        good = [("null",), ("to", local, 2, 0, 0), ("to", local, 2, 0, 1), ("to", local, 2, 0, 2), ("to", local, 2, 2, 0), ("to", shared, 3, 0, 0),
                ("to", shared, 3, 3, 0), UNSET]
        self.assertTrue(is_closed_chart(code, pointers(tuple(good))))
        wrong = [None, 5, (), [], chart[:4], chart + ((),), list(chart), ([],) + chart[1:], (cells[:-1],) + chart[1:], (cells + ((),),) + chart[1:],
                 (tuple(map(list, cells)),) + chart[1:], put(chart, 1, []), put(chart, 1, (shared,)), put(chart, 1, (("made", 0, 0),)), put(chart, 1, None),
                 put(chart, 2, []), put(chart, 2, (UNSET,)), put(chart, 2, ((UNSET,),)), put(chart, 2, ()), put(chart, 2, ([],)), put(chart, 3, (True,)),
                 put(chart, 3, [1]), put(chart, 3, (13,)), put(chart, 3, (0,)), put(chart, 3, (None,)), put(chart, 3, ()), put(chart, 4, ()),
                 put(chart, 4, [guesses[0]]), put(chart, 4, (list(guesses[0]),)), put(chart, 4, (guesses[0][:-1],)), put(chart, 4, (guesses[0] + (None,),)),
                 put(chart, 4, (put(guesses[0], 0, None),)), put(chart, 4, (put(guesses[0], 0, ()),)), put(chart, 4, (put(guesses[0], 0, list(guesses[0][0])),))]
        three = band(3)
        wrong += [at(lot) for lot in ((), [three, UNSET], (three, three, UNSET), (UNSET, three), (three, band(-1)), (("band", 0, 1), three), (UNSET,),
                                      (("band", False, 0), three), (("band", 0), three), (["band", 0, 0], three), (three, UNSET, ("unset", 1)), (three, ("null",)),
                                      (None,), (three, "unset"), (("band", 0, None), three), ((0, 0, 0), three), (three, ("to", shared, 3, 0, 0), UNSET))]
        # Without the trait that is none they are closed.
        wrong += [pointers(tuple(sorted([("to", shared, 3, 0, 0), trait], key=str))) for trait in (
            ("to", shared, 3, 0, 1), ("to", shared, 2, 0, 0), ("to", shared, 3, 4, 0), ("to", shared, 3, -1, 0), ("to", local, 2, 0, 3), ("to", ("shared", 1), 2, 0, 0),
            ("to", ("shared", 9), 2, 0, 0), ("to", ["shared", 0], 3, 0, 0), ("to", ("shared", False), 3, 0, 0), ("to", shared, 3, False, 0), ("to", shared, 3, 0),
            ("to", None, 3, 0, 0), ("to", ("made", 0, 0), 1, 0, 0), ("to", (), 1, 0, 0), ("to", shared, 3, 0, 0, 0), three, ("to", shared, 3, 0, False))]
        for thing in wrong:
            self.assertFalse(is_closed_chart(code, thing), thing)
            self.assertRaises(BadChart, needless, code, thing)
            self.assertRaises(BadChart, spared, code, thing)
        self.assertEqual(is_closed_chart(code=code, thing=chart), True)

    def test_gives_ascend(self):
        code = CODES[3]
        chart = chart_of(code)
        one, other = ("made", 0, 0), ("made", 0, 1)
        self.assertEqual(chart[1], (one, other))
        for gives, fine in (((one, other), True), ((other, one), False), ((one, one, other), False), ((other,), False), ((one, other, ("made", 0, 2)), False),
                            ((("made", False, 0), other), False), ((one, ("made", 0, True)), False), ((one, list(other)), False), ((one, other, None), False),
                            ([one, other], False), ((one, other, ("shared", 0)), False)):
            self.assertEqual(is_closed_chart(code, chart[:1] + (gives,) + chart[2:]), fine)

    def test_numbers_of_cells(self):
        """Of "made" sites from 1 to 16."""
        code = CODES[3]
        cells, gives, results, deep, guesses = chart_of(code)
        site = ("made", 0, 0)
        for many, offset, fine in ((1, 0, True), (1, 1, True), (1, 2, False), (16, 16, True), (17, 0, False), (0, 0, False), (True, 0, False)):
            lot = tuple(sorted(guesses[0][1][0] + (("to", site, many, offset, 0),), key=lambda t: (t[0],) + t[2:]))
            row = guesses[0][:1] + ((lot,) + guesses[0][1][1:],) + guesses[0][2:]
            plain = Plain(code)
            chart = (cells, gives, results, deep, (row,))
            if fine:
                grown = plain.of_told(chart)
                while any([plain.meet(grown, demand) for demand in plain.all_demands(grown)]):
                    pass
                chart = plain.told(grown)
            self.assertEqual(is_closed_chart(code, chart), fine)

    def test_nothing_is_changed(self):
        code = CODES[10]
        again = code_of(HAND[10])
        chart = chart_of(code)
        needless(code, chart)
        self.assertEqual((code, chart), (again, chart_of(again)))


class Sound(unittest.TestCase):
    """What a closed chart tells holds at each moment of a run."""

    def has(self, bands, sites, lot, value, firms):
        if value is None:
            return UNSET in lot
        if not isinstance(value, tuple):
            return any(trait[0] == "band" and trait[1] <= value <= trait[2] for trait in lot)
        if value == (0, 0, 0):
            return ("null",) in lot
        site, many = sites[value[:2]]
        own = {0} | {firm for firm, names in firms.items() if value[:2] in names and site[0] == "local"}
        return any(trait[0] == "to" and trait[1:4] == (site, many, value[2]) and trait[4] in own for trait in lot)

    def made_by(self, code, moments, weaving):
        """For each block of a run the site and the number of cells."""
        found = {}

        def local_names(stack):
            for frame in stack[-1:]:
                for number, name in enumerate(frame[3]):
                    found.setdefault(name, (("local", frame[0], number), code.functions[frame[0]][3][number][2]))

        for slot in range(len(code.shared)):
            found[(slot, 1)] = (("shared", slot), code.shared[slot][2])
        for stack in moments[0].stacks:
            local_names(stack)
        for thread, one, other in zip(weaving, moments, moments[1:]):
            if other.stacks[thread]:
                local_names(other.stacks[thread])
            frame = one.stacks[thread][-1]
            for slot in other.memory:
                name = (slot, (other.lives[slot] + 1) // 2)
                if name not in found:
                    found[name] = (("made", frame[0], frame[1]), len(other.memory[slot][2]))
        return found

    def look(self, code, chart, seed):
        cells, gives, results, deep, guesses = chart
        inputs, weaving = some_run(code, seed)
        moments, _ = code_run(code_begun(code), inputs, weaving)
        bands, sites = bands_of(code), self.made_by(code, moments, weaving)
        lots = dict(zip([site for site, _ in sites_of(code)], cells))
        for moment in moments:
            for slot, (how, _, values) in moment.memory.items():
                site, many = sites[(slot, (moment.lives[slot] + 1) // 2)]
                self.assertEqual(many, len(values))
                for value in values:
                    self.assertTrue(self.has(bands, sites, lots[site], value, {}))
            for name, (site, _) in sites.items():
                if site[0] == "made" and moment.lives[name[0]] > 2 * name[1] - 1:
                    self.assertIn(site, gives)
            for stack in moment.stacks:
                for height, frame in enumerate(stack):
                    self.assertLessEqual(height + 1, deep[frame[0]])
                if not stack:
                    continue
                function, position, values = stack[-1][:3]
                guess = guesses[function][position]
                self.assertIsNotNone(guess)
                below = {name for frame in stack[:-1] for name in frame[3]}
                for lot, value in zip(guess, values):
                    self.assertTrue(self.has(bands, sites, lot, value, {2: set(stack[-1][3]), 1: below}))
        return len(weaving)

    def test_least(self):
        for number, code in enumerate(CODES + RANDOM):
            chart = chart_of(code)
            for seed in range(5):
                self.look(code, chart, seed + 7 * number)

    def test_greater(self):
        for number, code in enumerate(CODES[:16]):
            chart = greater(code, chart_of(code), number)
            for seed in range(3):
                self.look(code, chart, seed)

    def test_spared_does_the_same(self):
        fewer = 0
        for number, code in enumerate(CODES + RANDOM):
            chart = greater(code, chart_of(code), number) if number < 10 else chart_of(code)
            less = spared(code, chart)
            fewer += less != code
            for seed in range(6):
                inputs, weaving = some_run(code, seed + 7 * number)
                moments, traces = code_run(code_begun(code), inputs, weaving)
                others, again = code_run(code_begun(less), inputs, weaving)
                self.assertEqual(again, traces)
                for one, other in zip(moments, others):
                    self.assertEqual(CodeMoment(code, other.lives, other.memory, other.held, other.stacks, other.asked, other.given, other.wrong), one)
                for thread in range(len(code.threads)):
                    self.assertEqual(self.told_of(moments[-1], thread, inputs), self.told_of(others[-1], thread, inputs))
        self.assertGreater(fewer, 60)

    def told_of(self, moment, thread, inputs):
        try:
            return code_stepped(moment, thread, inputs)[1]
        except WrongError as error:
            return type(error), vars(error)

    def test_lost(self):
        """Where the code itself is Lost, so is the code without more checks."""
        met = 0
        for number, code in enumerate(CODES):
            bare = without(code, [name for name in checks_of(code) if number % 2 or name[1] % 2 == 0])
            less = spared(bare, chart_of(bare))
            for seed in range(4):
                inputs, weaving = some_run_told(bare, seed)
                told = self.run_told(bare, inputs, weaving)
                self.assertEqual(self.run_told(less, inputs, weaving), told)
                met += told[0] == Lost
        self.assertGreater(met, 5)

    def run_told(self, code, inputs, weaving):
        try:
            moments, traces = code_run(code_begun(code), inputs, weaving)
        except WrongError as error:
            return type(error), vars(error)
        return moments[-1].wrong, traces


def some_run_told(code, seed):
    """Inputs and a weaving, up to a step that is Lost."""
    dice = random.Random(seed)
    inputs = [dice.randint(0, 1) for _ in range(60)]
    moment, weaving = code_begun(code), []
    while len(weaving) < 60:
        ready = [thread for thread in range(len(code.threads)) if code_can_step(moment, thread)]
        if not ready:
            break
        weaving.append(dice.choice(ready))
        try:
            moment = code_stepped(moment, weaving[-1], inputs)[0]
        except Lost:
            break
        except (BadInputs, NotNow):
            weaving.pop()
            break
    return inputs, weaving


class Needless(unittest.TestCase):
    """Each kind of check, needed and needless, by hand."""

    def told(self, body, position=-1, **more):
        """The words of the checks of a line that are needed."""
        made = of(body, **more)
        code = code_of(made)
        position = position % len(code.lines[0])
        spared_ones = needless(code, chart_of(code))
        self.assertIsNotNone(chart_of(code)[4][0][position])
        return [code.lines[0][position][0][spot][1] for number, place, spot in checks_of(code) if (number, place) == (0, position)
                and (number, place, spot) not in spared_ones]

    def test_each(self):
        s, m, t = ("shared", "s"), ("block", "m"), ("shared", "t")
        ask = ("ask", "x", 0, 1)
        for body, words in (
                ((("give", X),), ["unset"]), ((("let", "x", I(1)), ("give", X)), []), ((("give", ("at", m)),), ["unset"]), ((("give", ("at", s)),), []),
                ((("give", ("at", ("on", s, I(2)))),), []), ((("give", ("at", ("on", s, I(3)))),), ["beyond"]), ((("give", ("at", ("on", s, I(4)))),), ["beyond"]),
                ((("give", ("at", ("at", t))),), ["null"]), ((("make", "p", "int", I(1)), ("store", P, I(1))), ["null"]),
                ((("ask", "x", 1, 16), ("make", "p", "int", X)), []), ((("ask", "x", 1, 17), ("make", "p", "int", X)), ["great"]), ((("ask", "x", 0, 1), ("make", "p", "int", X)), ["great"]),
                ((("make", "p", "int", I(16)),), []), ((("make", "p", "int", I(17)),), ["great"]), ((ask, ("give", ("sum", X, I(MOST)))), ["great"]),
                ((ask, ("give", ("sum", X, I(MOST - 1)))), []), ((ask, ("give", ("less", I(LEAST), X))), ["great"]), ((ask, ("give", ("times", X, I(MOST)))), []),
                ((ask, ("give", ("share", I(1), X))), ["share"]), ((("ask", "x", -1, 1), ("give", ("share", I(LEAST), X))), ["share", "great"]),
                ((("ask", "x", -1, -1), ("give", ("rest", I(LEAST), X))), []), ((ask, ("give", ("rest", I(5), X))), ["share"]),
                ((("away", s),), ["away"]), ((("away", NULL),), []), ((("make", "p", "int", I(2)), ("away", P)), ["gone"]),
                ((("make", "p", "int", I(2)), ("away", ("on", P, I(1)))), ["null", "away"]), ((("make", "p", "int", I(2)), ("away", P), ("away", P)), ["gone"]),
                ((("take", "k"),), ["lock"]), ((("leave", "k"),), ["lock"]), ((("give", ("gap", s, m)),), ["unlike"]), ((("give", ("gap", s, s)),), []),
                ((("give", ("gap", m, m)),), []), ((("give", ("gap", s, NULL)),), ["null"]), ((("give", ("below", NULL, NULL)),), []),
                ((("give", ("same", s, NULL)),), []), ((("store", t, m),), []),
                ((ask, ("if", ("and", ("same", X, I(5)), ("at", NULL)), (), ())), ["null"]), ((("store", t, m), ("store", ("at", t), I(3))), ["null", "gone"]),
                ((("make", "p", "int", I(2)), ("make", "q", "int", I(2)), ("away", P), ("store", t, P)), [])):
            self.assertEqual(self.told(body), words, body)

    def test_what_a_store_writes(self):
        """A pointer to a block that is gone may be written: it is not looked at."""
        body = (("make", "p", "int", I(2)), ("away", P), ("store", ("shared", "t"), P))
        self.assertEqual(self.told(body), [])

    def test_deep(self):
        f = (("f", (), (), (), "none", ()),)
        g = (("f", (), (), (("n", "int", 1),), "none", ()),)
        self.assertEqual(self.told((("call", "", "f", ()),), more=f), [])
        self.assertEqual(self.told((("call", "", "f", ()),), more=g), ["deep"])
        self.assertEqual(self.told((("call", "", "main", ()),)), ["deep"])

    def test_not_come_to(self):
        code = CODES[11]
        never = [name for name in checks_of(code) if name[:2] == (1, 3)]
        self.assertTrue(never and set(never) <= set(needless(code, chart_of(code))))


if __name__ == "__main__":
    unittest.main()
