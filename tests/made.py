"""Programs, moments and weavings for the tests, made by seeds."""

import random

from firstwrong.errors import WrongError
from firstwrong.moments import begun
from firstwrong.steps import can_step, stepped
from firstwrong.trees import Program

CELLS = ("int", "byte", ("to", "int"), ("to", "byte"))
SORTS = CELLS + (("to", ("to", "int")), ("to", ("to", "byte")))


def I(number):
    return ("int", number)


def L(word):
    return ("local", word)


def program(body, locals_=(), shared=(), locks=(), blocks=(), params=(), result="none", more=(), threads=("main",)):
    """A program whose first function is main."""
    return Program((tuple(shared), tuple(locks),
                    (("main", tuple(params), tuple(locals_), tuple(blocks), result, tuple(body)),) + tuple(more),
                    tuple(threads)))


class Maker:
    """Makes a random program that is let."""

    def __init__(self, seed):
        self.dice = random.Random(seed)
        d = self.dice
        self.shared = tuple((w, d.choice(CELLS), d.randint(1, 3)) for w in ("s", "t", "u")[:d.randint(0, 3)])
        self.locks = ("k", "l")[:d.randint(0, 2)]
        self.heads = [self.head("main", False)]
        for word in ("f", "g", "h")[:d.randint(0, 3)]:
            self.heads.append(self.head(word, True))

    def head(self, word, params):
        d = self.dice
        rows = [(w, d.choice(SORTS + ("int", "byte"))) for w in ("a", "b", "c", "d", "e")]
        cut = d.randint(0, 2) if params else 0
        rows[-1] = ("e", "int")
        blocks = tuple((w, d.choice(CELLS), d.randint(1, 3)) for w in ("x", "y")[:d.choice((0, 0, 1, 2))])
        result = d.choice(("none",) + SORTS + ("int",))
        return (word, tuple(rows[:cut]), tuple(rows[cut:]), blocks, result)

    def expression(self, head, sort, deep):
        d = self.dice
        found = []
        for w, s in head[1] + head[2]:
            if s == sort:
                found += [lambda w=w: ("local", w)] * 3
        for w, s, _ in self.shared:
            if ("to", s) == sort:
                found += [lambda w=w: ("shared", w)] * 3
        for w, s, _ in head[3]:
            if ("to", s) == sort:
                found += [lambda w=w: ("block", w)] * 3
        more = lambda s: self.expression(head, s, deep - 1)
        if sort == "int":
            found += [lambda: ("int", d.choice((0, 0, 1, 1, 2, 3, -1, 17, 255, 2 ** 31 - 1, -(2 ** 31))))] * 3
            found += [lambda: ("int", d.choice((0, 1, 2, 1, 1)))] * 5
        elif sort == "byte":
            found.append(lambda: ("byte", d.choice((0, 1, 2, 200, 255))))
        elif sort in (("to", s) for s in CELLS):
            found.append(lambda: ("null", sort[1]))
        if deep > 1:
            if sort in CELLS:
                found += [lambda: ("at", more(("to", sort)))] * 3
            if isinstance(sort, tuple):
                found += [lambda: ("on", more(sort), more("int"))] * 2
            if sort in ("int", "byte"):
                found += [lambda w=w: (w, more(sort), more(sort)) for w in ("sum", "less", "times", "share", "rest")]
            if sort == "byte":
                found.append(lambda: ("low", more("int")))
            if sort == "int":
                found.append(lambda: ("wide", more("byte")))
                found.append(lambda: ("not", more("int")))
                found += [lambda w=w: (w, more("int"), more("int")) for w in ("and", "or")]
                found += [lambda w=w: (lambda s: (w, more(s), more(s)))(d.choice(SORTS)) for w in ("same", "below")]
                found.append(lambda: (lambda s: ("gap", more(s), more(s)))(d.choice(SORTS[2:])))
        if not found:
            return None
        return d.choice(found)()

    def whole(self, thing):
        """Whether no part is None."""
        if isinstance(thing, tuple):
            return all(self.whole(part) for part in thing)
        return thing is not None

    def statement(self, head, deep):
        while True:
            made = self.try_statement(head, deep)
            if made is not None and self.whole(made):
                return made

    def try_statement(self, head, deep):
        d = self.dice
        rows = head[1] + head[2]
        word = d.choice(("let", "let", "let", "let", "store", "store", "make", "make", "away", "ask", "give", "give",
                         "if", "if", "while", "call", "call", "return", "take", "leave"))
        expr = lambda sort, n=4: self.expression(head, sort, d.randint(1, n))
        if word == "let":
            w, s = d.choice(rows)
            return ("let", w, expr(s))
        if word == "store":
            s = d.choice(CELLS)
            return ("store", expr(("to", s)), expr(s))
        if word == "make":
            pointers = [(w, s) for w, s in rows if isinstance(s, tuple)]
            if not pointers:
                return None
            w, s = d.choice(pointers)
            return ("make", w, s[1], d.choice((("int", d.choice((1, 2, 3, 3, 4, 0, 17))), expr("int", 2))))
        if word == "away":
            pointers = [w for w, s in rows if isinstance(s, tuple)]
            if pointers and d.random() < 0.8:
                return ("away", ("local", d.choice(pointers)))
            return ("away", expr(d.choice(SORTS[2:])))
        if word == "ask":
            w, s = d.choice(rows)
            return ("ask", w, d.choice((0, -5)), d.choice((3, 9, 0))) if s == "int" else None
        if word == "give":
            return ("give", expr("int"))
        if word == "if" and deep < 3:
            return ("if", expr("int"), self.body(head, deep + 1), self.body(head, deep + 1))
        if word == "while" and deep < 3:
            return ("while", expr("int"), self.body(head, deep + 1))
        if word == "call":
            other = d.choice(self.heads)
            targets = [w for w, s in rows if s == other[4]] + [""]
            return ("call", d.choice(targets), other[0], tuple(expr(s) for _, s in other[1]))
        if word == "return" and d.random() < 0.4:
            return ("return",) if head[4] == "none" else ("return", expr(head[4]))
        if word in ("take", "leave") and self.locks:
            return (word, d.choice(self.locks))
        return None

    def body(self, head, deep):
        many = self.dice.randint(3, 9) if deep == 1 else self.dice.randint(0, 3)
        return tuple(self.statement(head, deep) for _ in range(many))

    def prelude(self, head):
        """Sets most locals and cells, so that not all goes wrong at once."""
        d = self.dice
        found = []
        for w, s, many in head[3]:
            for spot in range(many):
                found.append(("store", ("on", ("block", w), ("int", spot)), self.plain(s)))
        for w, s in head[2]:
            if d.random() < 0.04:
                continue
            if not isinstance(s, tuple):
                found.append(("let", w, self.plain(s)))
            elif d.random() < 0.15:
                found.append(("let", w, ("null", s[1])))
            else:
                blocks = [("shared", x) for x, y, _ in self.shared if y == s[1]]
                blocks += [("block", x) for x, y, _ in head[3] if y == s[1]]
                if blocks and d.random() < 0.7:
                    found.append(("let", w, d.choice(blocks)))
                else:
                    found.append(("make", w, s[1], ("int", 3)))
                    found.append(("store", ("local", w), self.plain(s[1])))
                    found.append(("store", ("on", ("local", w), ("int", 1)), self.plain(s[1])))
        return found

    def plain(self, sort):
        if isinstance(sort, tuple):
            blocks = [("shared", x) for x, y, _ in self.shared if y == sort[1]]
            return self.dice.choice(blocks + [("null", sort[1])])
        return (sort, self.dice.choice((0, 1, 2)))

    def program(self):
        functions = []
        for head in self.heads:
            body = tuple(self.prelude(head)) + self.body(head, 1)
            functions.append(head + (body,))
        free = [head[0] for head in self.heads if head[1] == ()]
        threads = tuple(self.dice.choice(free) for _ in range(self.dice.choice((1, 2, 2, 3))))
        return Program((self.shared, self.locks, tuple(functions), threads))


class Brancher(Maker):
    """Makes programs that turn on their inputs."""

    def try_statement(self, head, deep):
        d = self.dice
        ints = [word for word, sort in head[1] + head[2] if sort == "int"]
        kind = d.random()
        if kind < 0.12:
            return ("ask", d.choice(ints), 0, 9)
        if kind < 0.35 and deep < 3:
            test = ("local", d.choice(ints)) if d.random() < 0.7 else self.expression(head, "int", 2)
            return ("if", test, self.body(head, deep + 1), self.body(head, deep + 1))
        if kind < 0.42 and deep < 3:
            word = d.choice(ints)
            return ("while", ("below", ("int", 0), ("local", word)), self.body(head, deep + 1) + (("let", word, ("int", 0)),))
        return Maker.try_statement(self, head, deep)

    def prelude(self, head):
        ints = [word for word, sort in head[2] if sort == "int"]
        return Maker.prelude(self, head) + [("ask", word, 0, 9) for word in ints[:2]]


def branching_runs(many, steps=50, first=0):
    """Triples (program, inputs, weaving) of runs that turn on their inputs."""
    found = []
    for seed in range(first, first + many):
        made = Brancher(seed).program()
        inputs = inputs_of(seed, 60)
        inputs = [abs(number) for number in inputs]
        found.append((made, inputs, weaving_of(begun(made), inputs, steps, seed)))
    return found


def programs(many, first=0):
    """So many random programs."""
    return [Maker(seed).program() for seed in range(first, first + many)]


def inputs_of(seed, many=12):
    dice = random.Random(seed)
    return [dice.choice((0, 1, 2, 3, 0, -3, 5)) for _ in range(many)]


def weaving_of(moment, inputs, many, seed):
    """A weaving that can be done from the moment, of at most so many steps."""
    dice = random.Random(seed)
    found = []
    for _ in range(many):
        threads = list(range(len(moment.stacks)))
        dice.shuffle(threads)
        for thread in threads:
            if not can_step(moment, thread):
                continue
            try:
                moment = stepped(moment, thread, inputs)[0]
            except WrongError:
                continue
            found.append(thread)
            break
        else:
            break
    return found


def runs(many, steps=40, first=0):
    """Triples (program, inputs, weaving) of random runs."""
    found = []
    for seed in range(first, first + many):
        made = Maker(seed).program()
        inputs = inputs_of(seed)
        found.append((made, inputs, weaving_of(begun(made), inputs, steps, seed)))
    return found


def spill():
    """The program of spill_text, by hand."""
    x, t, row = L("spot"), L("times"), L("row")
    body = (("ask", "times", 0, 9), ("make", "row", "int", I(4)), ("let", "spot", I(0)),
            ("while", ("below", x, t), (("store", ("on", row, x), x), ("let", "spot", ("sum", x, I(1))))),
            ("give", ("at", ("on", row, I(3)))), ("away", row), ("ask", "times", 0, 1),
            ("if", t, (("give", ("at", row)),), ()))
    return program(body, (("spot", "int"), ("times", "int"), ("row", ("to", "int"))))


def tally():
    """The program of tally_text, by hand."""
    cell, had, turn = ("shared", "sum"), L("had"), L("turn")
    body = (("let", "turn", I(0)),
            ("while", ("below", turn, I(3)), (
                ("take", "door"), ("let", "had", ("at", cell)), ("store", cell, ("sum", had, I(1))), ("leave", "door"),
                ("let", "turn", ("sum", turn, I(1))))), ("give", ("at", cell)))
    return program(body, (("had", "int"), ("turn", "int")), (("sum", "int", 1),), ("door",), threads=("main", "main"))


def sorter():
    """The program of sorter_text, by hand."""
    spot, here, many, value, row = (L(w) for w in ("spot", "here", "many", "value", "row"))
    at = lambda e: ("at", ("on", row, e))
    body = (("ask", "many", 1, 16), ("make", "row", "int", many), ("let", "spot", I(0)),
            ("while", ("below", spot, many), (
                ("ask", "value", -(2 ** 31), 2 ** 31 - 1), ("let", "here", spot),
                ("while", ("and", ("below", I(0), here), ("below", value, at(("less", here, I(1))))), (
                    ("store", ("on", row, here), at(("less", here, I(1)))), ("let", "here", ("less", here, I(1))))),
                ("store", ("on", row, here), value), ("let", "spot", ("sum", spot, I(1))))),
            ("let", "spot", I(0)),
            ("while", ("below", spot, many), (("give", at(spot)), ("let", "spot", ("sum", spot, I(1))))),
            ("away", row))
    return program(body, tuple((w, "int") for w in ("spot", "here", "many", "value")) + (("row", ("to", "int")),))


def giving():
    """Gives 5 and -1."""
    return program((("give", I(5)), ("give", I(-1))))


def read_of(expression, local, sort, *setting):
    """A program whose last statement works out an expression by which it may go wrong."""
    return program(setting + (("let", local, expression),),
                   (("x", "int"), ("y", "int"), ("b", "byte"), ("p", ("to", "int")), ("q", ("to", "byte"))),
                   (("s", "int", 2),), ("k",), (("m", "byte", 2),))


def by_words():
    """For each wrong word that can come in a run, programs of one thread that go wrong so."""
    p, x = L("p"), L("x")
    shared, block = ("shared", "s"), ("block", "m")
    make, away = ("make", "p", "int", I(1)), ("away", p)
    deep = program((("call", "", "main", ()),))
    wide = Program(((), (), (("main", (), (), (), "none", (("call", "", "f", ()),)),
                             ("f", (), (), (("u", "int", 1), ("v", "int", 2), ("w", "byte", 1)), "none",
                              (("call", "", "f", ()),))), ("main",)))
    over = ("on", shared, I(2))
    return {
        "unset": [read_of(("sum", I(1), x), "y", "int"), read_of(("at", block), "b", "byte"),
                  read_of(("at", p), "x", "int", make), read_of(L("y"), "x", "int")],
        "null": [read_of(("at", ("null", "int")), "x", "int"), read_of(("gap", shared, ("null", "int")), "x", "int"),
                 read_of(("on", ("null", "int"), I(1)), "p", "int"), read_of(I(0), "x", "int", ("store", ("null", "int"), I(1)))],
        "gone": [read_of(("at", p), "x", "int", make, away), read_of(("same", p, p), "x", "int", make, away),
                 read_of(("on", p, I(0)), "p", "int", make, away), read_of(I(0), "x", "int", make, away, away),
                 read_of(I(0), "x", "int", make, away, ("store", p, I(3)))],
        "beyond": [read_of(("at", over), "x", "int"), read_of(("on", over, I(1)), "p", "int"),
                   read_of(I(0), "x", "int", ("store", over, I(1))), read_of(("on", shared, I(-1)), "p", "int")],
        "unlike": [read_of(("below", p, shared), "x", "int", make), read_of(("gap", p, shared), "x", "int", make)],
        "great": [read_of(("times", I(65536), I(65536)), "x", "int"), read_of(I(0), "x", "int", ("make", "p", "int", I(17)))],
        "share": [read_of(("share", I(1), I(0)), "x", "int"), read_of(("rest", ("byte", 1), ("byte", 0)), "b", "byte")],
        "away": [read_of(I(0), "x", "int", ("away", shared)), read_of(I(0), "x", "int", ("away", block)),
                 read_of(I(0), "x", "int", make, ("away", ("on", p, I(1))))],
        "deep": [deep, wide],
        "lock": [read_of(I(0), "x", "int", ("leave", "k")), read_of(I(0), "x", "int", ("take", "k"), ("take", "k"))],
    }


def all_runs(many, steps=40, first=0):
    """Runs of random programs, of the examples, and of a program for each wrong word."""
    found = runs(many, steps, first)
    for made, inputs in ((spill(), [3]), (spill(), [5]), (spill(), [4, 1]), (spill(), [4, 0]), (tally(), []), (tally(), []),
                         (sorter(), [3, 5, -1, 5])):
        found.append((made, inputs, weaving_of(begun(made), inputs, 80, len(found))))
    for rows in by_words().values():
        for made in rows:
            found.append((made, [], weaving_of(begun(made), [], 40, 0)))
    return found
