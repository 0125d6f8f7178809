"""Points 44 to 48 once more, word by word over sets of traits, for the tests."""

from made import Maker
from firstwrong.codeops import sort_of
from firstwrong.codes import checks_of, instruction_of
from firstwrong.parts import expressions_of
from firstwrong.traits import bands_of, sites_of

LEAST, MOST = -(2 ** 31), 2 ** 31 - 1
UNSET, NULL = ("unset",), ("null",)


class Plain:
    """Works over a chart whose lots are sets."""

    def __init__(self, code):
        self.code = code
        self.bands = bands_of(code)
        self.sites = [site for site, _ in sites_of(code)]
        self.sorts = dict(sites_of(code))

    def locals_of(self, function):
        head = self.code.functions[function]
        return [word for word, _ in head[1] + head[2]]

    def manies(self, site):
        if site[0] == "shared":
            return [self.code.shared[site[1]][2]]
        if site[0] == "local":
            return [self.code.functions[site[1]][3][site[2]][2]]
        return list(range(1, 17))

    # Lots of numbers.

    def band(self, low, high, byte=False):
        """The bands that have a number from low to high."""
        if byte:
            if high - low >= 255:
                return self.band(0, 255)
            numbers = {number % 256 for number in range(low, high + 1)}
            return {("band", a, b) for a, b in self.bands if 0 <= a and b <= 255 and any(number in numbers for number in range(a, b + 1))}
        return {("band", a, b) for a, b in self.bands if a <= high and b >= low}

    def span(self, lot):
        return min(trait[1] for trait in lot), max(trait[2] for trait in lot)

    def ranges(self, word, first, second):
        """The ranges of "sum", "less", "times", "share" and "rest"."""
        (l, h), found = self.span(first), []
        if word in ("sum", "less", "times"):
            c, d = self.span(second)
            deed = {"sum": lambda x, y: x + y, "less": lambda x, y: x - y, "times": lambda x, y: x * y}[word]
            rows = [deed(x, y) for x in (l, h) for y in (c, d)]
            return [(min(rows), max(rows))]
        for half in ([t for t in second if t[2] < 0], [t for t in second if t[1] > 0]):
            if not half:
                continue
            c, d = self.span(half)
            if word == "share":
                rows = [x // y for x in (l, h) for y in (c, d)]
                found.append((min(rows), max(rows)))
            elif c > 0:
                found.append((0, min(d - 1, h) if l >= 0 else d - 1))
            else:
                found.append((max(c + 1, l) if h <= 0 else c + 1, 0))
        return found

    def test(self, hold, fail):
        return ({("band", 1, 1)} if hold else set()) | ({("band", 0, 0)} if fail else set())

    # Lots of pointers.

    def may_be_one(self, x, y):
        return x[1:3] == y[1:3] and {x[4], y[4]} != {1, 2}

    def are_one(self, x, y):
        return x[1:3] == y[1:3] and (x[1][0] == "shared" or x[4] == y[4] == 2)

    def lot(self, function, guess, cells, e):
        word = e[0]
        zero = ("band", 0, 0)
        if word in ("int", "byte"):
            return self.band(e[1], e[1])
        if word == "null":
            return {NULL}
        if word == "local":
            return guess[e[1]] - {UNSET}
        if word in ("shared", "block"):
            rows = self.code.shared if word == "shared" else self.code.functions[function][3]
            number = [row[0] for row in rows].index(e[1])
            site = ("shared", number) if word == "shared" else ("local", function, number)
            return {("to", site, rows[number][2], 0, 0 if word == "shared" else 2)}
        a = self.lot(function, guess, cells, e[1])
        if word in ("and", "or"):
            zero_there, other_there = zero in a, bool(a - {zero})
            hold, fail = (False, zero_there) if word == "and" else (other_there, False)
            if other_there if word == "and" else zero_there:
                b = self.lot(function, guess, cells, e[2])
                hold, fail = hold or bool(b - {zero}), fail or zero in b
            return self.test(hold, fail)
        b = self.lot(function, guess, cells, e[2]) if len(e) == 3 else {None}
        if not a or not b:
            return set()
        return self.made(word, a, b, cells, sort_of(self.code.names, function, e[1]))

    def made(self, word, a, b, cells, sort):
        zero = ("band", 0, 0)
        if word == "at":
            return {t for p in a if p[0] == "to" and p[3] < p[2] for t in cells[p[1]]} - {UNSET}
        if word == "on":
            low, high = self.span(b)
            found = {NULL} if NULL in a and zero in b else set()
            for p in a - {NULL}:
                found |= {p[:3] + (spot, p[4]) for spot in range(p[2] + 1) if p[3] + low <= spot <= p[3] + high}
            return found
        if word in ("sum", "less", "times", "share", "rest"):
            return set().union(*[self.band(low, high, sort == "byte") for low, high in self.ranges(word, a, b)])
        if word == "wide":
            return a
        if word == "low":
            return self.band(*self.span(a), True)
        if word == "not":
            return self.test(zero in a, bool(a - {zero}))
        if not isinstance(sort, tuple):
            if word == "below":
                return self.test(self.span(a)[0] < self.span(b)[1], self.span(a)[1] >= self.span(b)[0])
            one = len(a) == 1 and a == b and self.span(a)[0] == self.span(a)[1]
            return self.test(bool(a & b), not one)
        both = NULL in a and NULL in b
        pairs = [(x, y) for x in a - {NULL} for y in b - {NULL}]
        ones = [(x, y) for x, y in pairs if self.may_be_one(x, y)]
        if word == "gap":
            gaps = [x[3] - y[3] for x, y in ones] + ([0] if both else [])
            return set().union(*[self.band(gap, gap) for gap in gaps])
        if word == "below":
            return self.test(any(x[3] < y[3] for x, y in ones), both or any(x[3] >= y[3] for x, y in ones))
        hold = both or any(x[3] == y[3] for x, y in ones)
        fail = (NULL in a and b - {NULL}) or (NULL in b and a - {NULL}) or any(not self.are_one(x, y) or x[3] != y[3] for x, y in pairs)
        return self.test(hold, fail)

    # Instructions.

    def well(self, function, guess, cells, instruction, goal):
        lots = [self.lot(function, guess, cells, e) for e in expressions_of(instruction)]
        if not all(lots):
            return False
        word = instruction[0]
        if word == "store":
            return any(p[0] == "to" and p[3] < p[2] for p in lots[0])
        if word == "away":
            return any(p == NULL or (p[1][0] == "made" and p[3] == 0) for p in lots[0])
        if word == "make":
            return bool(lots[0] & self.band(1, 16))
        if word == "test":
            return bool(lots[0] - {("band", 0, 0)}) if goal == 0 else ("band", 0, 0) in lots[0]
        return True

    def words(self, expression):
        if expression[0] == "local":
            return {expression[1]}
        return set().union(*[self.words(part) for part in expression[1:] if isinstance(part, tuple) and part and
                             isinstance(part[0], str) and part[0] != "to" or isinstance(part, tuple) and part and isinstance(part[0], tuple)])

    def sift(self, function, guess, cells, instruction, goal):
        if not self.well(function, guess, cells, instruction, goal):
            return None
        found = dict(guess)
        for word in set().union(*[self.words(e) for e in expressions_of(instruction)]):
            found[word] = {t for t in guess[word] if self.well(function, {**guess, word: {t}}, cells, instruction, goal)}
        if not all(found.values()) or not self.well(function, found, cells, instruction, goal):
            return None
        return found

    def put(self, lot, firms):
        return {t[:4] + (firms[t[4]],) if t[0] == "to" else t for t in lot}

    def demands(self, chart, function, position):
        """What a position with a guess demands: (kind, where, what)."""
        cells, _, results, deep, guesses = chart
        rows = self.code.lines[function]
        if position == len(rows):
            return [("results", function, set() if self.code.functions[function][4] == "none" else {UNSET})]
        instruction = instruction_of(self.code, function, position)
        goals = rows[position][1] or (None,)
        found = []
        for number, goal in enumerate(goals):
            guess = self.sift(function, guesses[function][position], cells, instruction, number)
            if guess is not None:
                found += self.step(chart, function, position, instruction, guess, goal)
        return found

    def step(self, chart, function, position, instruction, guess, goal):
        cells, _, results, deep, _ = chart
        word = instruction[0]
        lots = [self.lot(function, guess, cells, e) for e in expressions_of(instruction)]
        found, new = [], dict(guess)
        if word == "store":
            found = [("cells", p[1], self.put(lots[1], (0, 0, 0))) for p in lots[0] if p[0] == "to" and p[3] < p[2]]
        if word == "away":
            found = [("gives", p[1], None) for p in lots[0] if p != NULL and p[1][0] == "made" and p[3] == 0]
        if word == "return":
            return [("results", function, self.put(lots[0], (0, 1, 0)) if lots else set())]
        if word == "let":
            new[instruction[1]] = lots[0]
        if word == "ask":
            new[instruction[1]] = self.band(instruction[2], instruction[3])
        if word == "make":
            site = ("made", function, position)
            found = [("cells", site, {UNSET})]
            new[instruction[1]] = {NULL} | {("to", site, n, 0, 0) for n in range(1, 17) if any(t[1] <= n <= t[2] for t in lots[0])}
        if word == "call":
            called = [head[0] for head in self.code.functions].index(instruction[2])
            found = [("deep", called, min(12, deep[function] + 1))]
            found += self.enter(called, [self.put(lot, (0, 1, 1)) for lot in lots])
            if results[called] is None:
                return found
            if instruction[1]:
                back = set(results[called])
                back |= {t[:4] + (2,) for t in back if t[0] == "to" and t[4] == 1 and t[1][:2] == ("local", function)}
                new[instruction[1]] = back
        return found + [("guess", (function, goal), new)]

    def enter(self, function, lots):
        head = self.code.functions[function]
        words = self.locals_of(function)
        guess = dict(zip(words, lots + [{UNSET}] * len(head[2])))
        return [("guess", (function, 0), guess)] + [("cells", ("local", function, n), {UNSET}) for n in range(len(head[3]))]

    def first(self):
        found = [("cells", site, {NULL} if isinstance(self.sorts[site], tuple) else {("band", 0, 0)}) for site in self.sites if site[0] == "shared"]
        for word in self.code.threads:
            function = [head[0] for head in self.code.functions].index(word)
            found += [("deep", function, 1)] + self.enter(function, [])
        return found

    # Charts.

    def told(self, chart):
        cells, gives, results, deep, guesses = chart
        row = lambda lot: tuple(sorted(lot))
        return (tuple(row(cells[site]) for site in self.sites), row(gives), tuple(None if r is None else row(r) for r in results), tuple(deep),
                tuple(tuple(None if g is None else tuple(row(g[word]) for word in self.locals_of(f)) for g in rows) for f, rows in enumerate(guesses)))

    def of_told(self, thing):
        cells, gives, results, deep, guesses = thing
        return (dict(zip(self.sites, map(set, cells))), set(gives), [None if r is None else set(r) for r in results], list(deep),
                [[None if g is None else dict(zip(self.locals_of(f), map(set, g))) for g in rows] for f, rows in enumerate(guesses)])

    def meet(self, chart, demand):
        """Meets a demand; whether it was not met."""
        cells, gives, results, deep, guesses = chart
        kind, where, what = demand
        if kind == "cells":
            fresh, cells[where] = not what <= cells[where], cells[where] | what
        elif kind == "gives":
            fresh = where not in gives
            gives.add(where)
        elif kind == "results":
            fresh = results[where] is None or not what <= results[where]
            results[where] = (results[where] or set()) | what
        elif kind == "deep":
            fresh, deep[where] = deep[where] < what, max(deep[where], what)
        else:
            function, position = where
            old = guesses[function][position]
            fresh = old is None or any(not what[word] <= old[word] for word in what)
            guesses[function][position] = {word: what[word] | (old[word] if old else set()) for word in what}
        return fresh

    def all_demands(self, chart):
        found = self.first()
        for function, row in enumerate(chart[4]):
            for position, guess in enumerate(row):
                if guess is not None:
                    found += self.demands(chart, function, position)
        return found

    def least(self):
        many = len(self.code.functions)
        chart = ({site: set() for site in self.sites}, set(), [None] * many, [0] * many, [[None] * (len(rows) + 1) for rows in self.code.lines])
        going = True
        while going:
            going = False
            for demand in self.all_demands(chart):
                going |= self.meet(chart, demand)
        return self.told(chart)

    def is_closed(self, thing):
        chart = self.of_told(thing)
        return not any([self.meet(self.of_told(thing), demand) for demand in self.all_demands(chart)])

    # Checks.

    def needless(self, thing):
        chart = self.of_told(thing)
        found = []
        for function, position, spot in checks_of(self.code):
            guess = chart[4][function][position]
            ops = self.code.lines[function][position][0]
            if guess is None or not self.needed(chart, function, guess, ops, spot, instruction_of(self.code, function, position)):
                found.append((function, position, spot))
        return found

    def piece(self, ops, spot, instruction):
        """The piece of a check: the one whose own op stands next to it."""
        place = spot
        if ops[spot][1] == "unset":
            place = spot - 1
        while ops[place][0] == "check":
            place += 1
        # The own ops of all pieces, in the sequence of the ops.
        order = []

        def walk(e):
            if e[0] in ("and", "or"):
                walk(e[1]), order.append(None), walk(e[2]), order.append(e)
                return
            for part in e[1:]:
                if isinstance(part, tuple) and e[0] not in ("int", "byte", "null", "local", "shared", "block"):
                    walk(part)
            order.append(e)

        for e in expressions_of(instruction):
            walk(e)
        order.append(instruction)
        return order[sum(op[0] != "check" for op in ops[:place])]

    def needed(self, chart, function, guess, ops, spot, instruction):
        cells, gives, _, deep, _ = chart
        word, piece = ops[spot][1], self.piece(ops, spot, instruction)
        kind = piece[0]
        if (word, kind) == ("unset", "local"):
            return UNSET in guess[piece[1]]
        parts = expressions_of(piece) if piece is instruction else piece[1:]
        lots = [self.lot(function, guess, cells, part) for part in parts if isinstance(part, tuple)]
        a = lots[0] if lots else set()
        b = lots[1] if len(lots) > 1 else set()
        places = lambda lot: {t for t in lot if t[0] == "to"}
        zero = ("band", 0, 0)
        if word == "unset":
            return any(UNSET in cells[p[1]] for p in places(a) if p[3] < p[2])
        if word == "null":
            if kind in ("at", "store"):
                return NULL in a
            if kind == "on":
                return NULL in a and bool(b - {zero})
            return bool(NULL in a and places(b) or NULL in b and places(a))
        if word == "gone":
            return any(p[1] in gives or (p[1][0] == "local" and p[4] == 0) for p in places(a) | (set() if kind == "store" else places(b)))
        if word == "beyond":
            if kind == "on":
                return bool(b) and any(p[3] + self.span(b)[0] < 0 or p[3] + self.span(b)[1] > p[2] for p in places(a))
            return any(p[3] == p[2] for p in places(a))
        if word == "unlike":
            return any(not self.are_one(x, y) for x in places(a) for y in places(b))
        if word == "great":
            if kind == "make":
                return any(t[1] < 1 or t[2] > 16 for t in a)
            return bool(a and b) and any(low < LEAST or high > MOST for low, high in self.ranges(kind, a, b))
        if word == "share":
            return zero in b
        if word == "away":
            return any(p[1][0] != "made" or p[3] != 0 for p in places(a))
        if word == "deep":
            called = [head[0] for head in self.code.functions].index(piece[2])
            return bool(self.code.functions[called][3]) or deep[function] == 12
        return word == "lock"


class Wary(Maker):
    """Makes programs of which much can be come to: what may go wrong is often passed by."""

    def statement(self, head, deep):
        ints = [word for word, sort in head[1] + head[2] if sort == "int"]
        inner = Maker.statement(self, head, deep)
        turn = ("local", ints[-1])
        if inner[0] == "while":
            return ("while", turn, inner[2] + (("ask", ints[-1], 0, 1),))
        if self.dice.random() < 0.06 or (inner[0] == "if" and self.dice.random() < 0.3):
            return inner
        return ("if", turn, inner[2], inner[3]) if inner[0] == "if" else ("if", turn, (inner,), ())

    def prelude(self, head):
        d = self.dice
        found = Maker.prelude(self, head)
        return found + [("ask", word, d.choice((0, -1)), d.choice((1, 3))) for word, sort in head[2] if sort == "int"]

    def body(self, head, deep):
        ints = [word for word, sort in head[1] + head[2] if sort == "int"]
        found = tuple(part for statement in Maker.body(self, head, deep) for part in (("ask", ints[-1], 0, 1), statement))
        if deep == 1 and self.dice.random() < 0.7:
            found = (("while", ("local", ints[-1]), found + (("ask", ints[-1], 0, 1),)),)
        if deep == 1 and head[4] != "none" and self.dice.random() < 0.7:
            found += (("return", self.kept(head, head[4])),)
        return found

    def kept(self, head, sort):
        """An expression that will do, if there is one."""
        while True:
            made = self.expression(head, sort, 3)
            if self.whole(made):
                return made
