"""Points 92 and 93: cells, looks, conditions and stops over pasts, against a plain look at all moments."""

import random
import unittest

from courses import caller, locked, stories
from made import I, L, Maker, program, runs, spill, tally
from firstwrong.cells import cell_value, changes_of, is_cell, is_look, last_set, next_set, shown, table_of, writes_of
from firstwrong.conditions import first_moment, holds, is_condition, last_moment, spans
from firstwrong.errors import BadCell, BadCondition, BadLook, BadMoment, BadNumber, BadPast, BadStop, BadTree, NotNow
from firstwrong.moments import Moment, begun
from firstwrong.pasts import Past, deed_at, moment_at, wrong_of
from firstwrong.steps import run, stepped
from firstwrong.stops import is_stop, last_stop, next_stop, stopping_places
from firstwrong.trees import Program, pieces

P = ("to", "int")
S = ("shared", "s")
ROWS = stories(10)
EACHES = (1, 4, 64)
WORDS = ("unset", "null", "gone", "beyond", "unlike", "kind", "great", "share", "away", "deep", "lock")


def setting():
    """Thread 0 in a call of f, a lock held, a shared block, a made one and a local one."""
    made = program((("take", "k"), ("make", "p", "int", I(2)), ("call", "x", "f", (I(5),))), (("x", "int"), ("p", P)), (("s", "int", 2), ("t", P, 1)),
                   ("k", "l"), (), more=(("f", (("a", "int"),), (("b", "int"),), (("n", "byte", 1),), "int", (("give", L("a")), ("return", L("a")))),),
                   threads=("main", "main"))
    return made, run(begun(made), [], [0, 0, 0, 0])[0][-1]


class Cells(unittest.TestCase):
    def test_what_is_one(self):
        made, _ = setting()
        cells = (("cell", 0, 1, 0), ("cell", 31, 2 ** 30, 15), ("block", 0, 1), ("block", 31, 2 ** 30), ("free",), ("lock", "k"), ("lock", "l"),
                 ("asked",), ("given",), ("wrong",))
        for thing in cells:
            self.assertTrue(is_cell(made, thing))
            self.assertTrue(is_look(made, thing))
        for thing in (("local", 0, 1, "x"), ("local", 1, 12, "abcdefghijkl")):
            self.assertFalse(is_cell(made, thing))
            self.assertTrue(is_look(made, thing))
        self.assertTrue(is_cell(program=made, thing=("free",)) and is_look(program=made, thing=("free",)))

    def test_what_is_none(self):
        made, _ = setting()
        for thing in (None, 5, "free", (), ["free"], ("cell", 32, 1, 0), ("cell", 0, 0, 0), ("cell", 0, 2 ** 30 + 1, 0), ("cell", 0, 1, 16), ("cell", True, 1, 0),
                      ("cell", 0, 1), ("block", 32, 1), ("block", 0, 2 ** 30 + 1), ("block", 0, False), ("block", 0, 1, 0), ("free", 0), ("lock", "m"), ("lock",), ("lock", "k", "k"), ("key", "k"), (None, "k"), ("cells", 0, 1, 0), ("blocks", 0, 1), ("block", 0, 1, 0, 0), ("cell", 0, 1, 0, 0), (["free"],), ("wrong", 0),
                      ("lock", 0), ("given", 0), ("way", 0), ("name", 0, 1, "n"), ("local", 2, 1, "x"), ("local", 0, 0, "x"), ("local", 0, 13, "x"),
                      ("local", 0, 1, "X"), ("local", True, 1, "x"), ("local", 0, 1), (None,), ((),)):
            self.assertFalse(is_cell(made, thing), thing)
            self.assertFalse(is_look(made, thing), thing)
        for call in (is_cell, is_look, is_condition, is_stop):
            for thing in (None, 5):
                with self.assertRaises(BadTree) as caught:
                    call(thing, None)
                self.assertIsNone(caught.exception.at)

    def test_what_is_shown(self):
        made, moment = setting()
        for cell, told in ((("cell", 0, 1, 1), (0,)), (("cell", 1, 1, 0), ((0, 0, 0),)), (("cell", 2, 1, 0), (None,)), (("cell", 2, 1, 2), ()), (("cell", 2, 2, 0), ()),
                           (("cell", 9, 1, 0), ()), (("block", 0, 1), ("shared", "int", 2)), (("block", 2, 1), ("made", "int", 2)),
                           (("block", 3, 1), ("local", "byte", 1)), (("block", 3, 2), None), (("free",), moment.lives), (("lock", "k"), 0), (("lock", "l"), None),
                           (("asked",), 0), (("given",), (5,)), (("wrong",), None)):
            self.assertEqual(cell_value(moment, cell), told)
            self.assertEqual(shown(moment, cell), told)
        for look, told in ((("local", 0, 1, "x"), (None,)), (("local", 0, 1, "p"), ((2, 1, 0),)), (("local", 0, 2, "a"), (5,)), (("local", 0, 2, "b"), (None,)),
                           (("local", 0, 2, "x"), ()), (("local", 0, 3, "x"), ()), (("local", 1, 1, "a"), ()), (("local", 0, 2, "n"), ())):
            self.assertEqual(shown(moment, look), told)
        wrong = Moment(made, moment.lives, moment.memory, moment.held, moment.stacks, 7, (), (1, "gone"))
        self.assertEqual((cell_value(wrong, ("wrong",)), cell_value(wrong, ("asked",))), ((1, "gone"), 7))

    def test_errors(self):
        made, moment = setting()
        for thing in (None, made):
            for call in (cell_value, shown, holds):
                with self.assertRaises(BadMoment) as caught:
                    call(thing, None)
                self.assertIsNone(caught.exception.part)
        for cell in (None, ("lock", "z"), ("local", 0, 1, "x"), ["free"]):
            self.assertRaises(BadCell, cell_value, moment, cell)
        for look in (None, ("lock", "z"), ("way", 0), ["free"], ("local", 2, 1, "x")):
            self.assertRaises(BadLook, shown, moment, look)
        past = Past(moment, ((), (0,)), 1)
        for call in (lambda thing: writes_of(thing, None), lambda thing: last_set(thing, None, None), lambda thing: next_set(thing, None, None),
                     lambda thing: changes_of(thing, None), lambda thing: table_of(thing, None), lambda thing: first_moment(thing, None, None),
                     lambda thing: last_moment(thing, None, None), lambda thing: spans(thing, None), lambda thing: stopping_places(thing, None),
                     lambda thing: next_stop(thing, None, None), lambda thing: last_stop(thing, None, None)):
            for thing in (None, moment, 5):
                with self.assertRaises(BadPast) as caught:
                    call(thing)
                self.assertIsNone(caught.exception.part)
        for call in (last_set, next_set, first_moment, last_moment, next_stop, last_stop):
            for place in (-1, 2, True, None):
                with self.assertRaises(BadNumber) as caught:
                    call(past, place, None)
                self.assertEqual(caught.exception.part, "place")
        for cell in (None, ("local", 0, 1, "x"), ["free"]):
            self.assertRaises(BadCell, writes_of, past, cell)
            self.assertRaises(BadCell, last_set, past, 0, cell)
            self.assertRaises(BadCell, next_set, past, 0, cell)
        for look in (None, ("way", 0), ["free"]):
            self.assertRaises(BadLook, changes_of, past, look)
        for looks in (None, [], (), 5, [("free",)] * 17, [None], [("free",), ("way", 0)], "free"):
            self.assertRaises(BadLook, table_of, past, looks)
        self.assertEqual(table_of(past, [("asked",)] * 16)[0], (0, (0,) * 16))
        self.assertEqual(table_of(past=past, looks=(("asked",),)), [(0, (0,))])
        for condition in (None, ("byte", 1), L("x")):
            self.assertRaises(BadCondition, holds, moment, condition)
            self.assertRaises(BadCondition, first_moment, past, 0, condition)
            self.assertRaises(BadCondition, last_moment, past, 0, condition)
            self.assertRaises(BadCondition, spans, past, condition)
        for stop in (None, ("wrong", "bad"), ("when", L("x"))):
            self.assertRaises(BadStop, stopping_places, past, stop)
            self.assertRaises(BadStop, next_stop, past, 0, stop)
            self.assertRaises(BadStop, last_stop, past, 0, stop)


def moments_of(past):
    return [moment_at(past, place)[0] for place in range(past.length + 1)]


def looks_of(past, moments):
    """Looks of a past: at all that ever was."""
    found = {("free",), ("asked",), ("given",), ("wrong",), ("local", 0, 7, "q"), ("block", 30, 1), ("cell", 30, 1, 0)}
    found |= {("lock", word) for word in past.program.locks}
    for moment in moments:
        for slot, block in moment.memory.items():
            found.add(("block", slot, (moment.lives[slot] + 1) // 2))
            found |= {("cell", slot, (moment.lives[slot] + 1) // 2, offset) for offset in range(len(block[2]))}
        for thread, stack in enumerate(moment.stacks):
            found |= {("local", thread, below + 1, word) for below, frame in enumerate(stack) for word in past.program.names.locals[frame[0]]}
    return sorted(found)


class LooksOverPasts(unittest.TestCase):
    def test_against_all_moments(self):
        changes = 0
        for number, (start, story) in enumerate(ROWS):
            past = Past(start, story, EACHES[number % 3])
            moments = moments_of(past)
            looks = looks_of(past, moments)
            deeds = [deed_at(past, place) for place in range(past.length)]
            for look in looks:
                shows = [shown(moment, look) for moment in moments]
                changed = [place for place in range(past.length) if shows[place] != shows[place + 1]]
                self.assertEqual(changes_of(past, look), changed)
                changes += len(changed)
                for place in changed:
                    # The HEART: only deeds that write it.
                    entry, writes = deeds[place][0], deeds[place][5]
                    if look[0] == "local":
                        self.assertTrue(entry[:2] == ("local", look[1]) if isinstance(entry, tuple) else entry == look[1])
                    else:
                        self.assertTrue(look in writes or (look[0] == "cell" and ("block",) + look[1:3] in writes), look)
                if look[0] != "local":
                    self.sets(past, look, [place for place, deed in enumerate(deeds) if look in deed[5]])
            for some in (looks[:1], looks[:16], looks[-16:], looks[3:9]):
                rows = [tuple(shown(moment, look) for look in some) for moment in moments]
                told = [(place, row) for place, row in enumerate(rows) if place == 0 or row != rows[place - 1]]
                self.assertEqual(table_of(past, some), told)
        self.assertGreater(changes, 300)

    def sets(self, past, cell, writes):
        self.assertEqual(writes_of(past, cell), writes)
        for place in range(past.length + 1):
            self.assertEqual(last_set(past, place, cell), max([deed for deed in writes if deed < place], default=None))
            self.assertEqual(next_set(past, place, cell), min([deed for deed in writes if deed >= place], default=None))

    def test_a_look_at_both_kinds_of_unset(self):
        # A block that goes takes its cell along: (None,) is not ().
        made = program((("make", "p", "int", I(1)), ("away", L("p"))), (("p", P),))
        past = Past(begun(made), ((), (0, 0)), 1)
        self.assertEqual(table_of(past, [("cell", 0, 1, 0), ("local", 0, 1, "p")]), [(0, ((), (None,))), (1, ((None,), ((0, 1, 0),))), (2, ((), ((0, 1, 0),)))])
        self.assertEqual(changes_of(past, ("cell", 0, 1, 0)), [0, 1])
        self.assertEqual(writes_of(past, ("cell", 0, 1, 0)), [])
        self.assertEqual(writes_of(past, ("block", 0, 1)), [0, 1])


def conditions_of(made):
    """Conditions over the shared blocks of a program; some go wrong at some moments."""
    found = [I(0), I(1), ("not", I(0)), ("share", I(1), I(0))]
    for word, sort, many in made.shared:
        block = ("shared", word)
        for at in (block, ("on", block, I(many - 1))):
            if sort == "int":
                found += [("at", at), ("below", ("at", at), I(2)), ("below", I(0), ("at", at)), ("same", ("at", at), I(1)), ("share", I(6), ("at", at)),
                          ("and", ("below", I(0), ("at", at)), ("not", ("at", block)))]
            elif sort == "byte":
                found += [("wide", ("at", at)), ("below", ("at", at), ("byte", 2))]
            else:
                found += [("same", ("at", at), ("null", sort[1])), ("not", ("same", ("at", at), ("null", sort[1])))]
                if sort == P:
                    found += [("at", ("at", at)), ("below", I(0), ("at", ("at", at)))]
    return found


class Conditions(unittest.TestCase):
    def test_what_is_one(self):
        made, _ = setting()
        deep = I(1)
        for _ in range(11):
            deep = ("not", deep)
        wide = self.wide(300)
        for thing in (I(1), ("at", S), ("at", ("at", ("shared", "t"))), ("same", ("null", "int"), S), ("wide", ("low", I(1))), deep, wide):
            self.assertTrue(is_condition(made, thing))
        for thing in (None, 5, (), "int", L("x"), ("sum", I(1), L("x")), ("block", "n"), ("same", ("block", "n"), S), ("byte", 1), S, ("null", "int"), ("int", True),
                      ("int", 2 ** 31), ("at", ("shared", "z")), ["int", 1], ("not", deep), self.wide(301), ("give", I(1)), ("sum", I(1), ("byte", 1)), ("at", I(1)),
                      ("low", I(1)), ("test", I(1))):
            self.assertFalse(is_condition(made, thing), thing)
        self.assertTrue(is_condition(program=made, thing=I(1)))
        # A program without functions has conditions, too.
        self.assertTrue(is_condition(Program((made.shared, (), (), ())), ("at", S)))

    def wide(self, many):
        """An expression of so many nodes."""
        if many < 3:
            return I(1) if many == 1 else ("not", I(1))
        left = (many - 1) // 2
        return ("sum", self.wide(left), self.wide(many - 1 - left))

    def test_holds(self):
        made, moment = setting()
        for condition, told in ((I(1), True), (I(-1), True), (I(0), False), (("at", S), False), (("not", ("at", S)), True), (("share", I(1), I(0)), False),
                                (("at", ("at", ("shared", "t"))), False), (("same", ("at", ("shared", "t")), ("null", "int")), True),
                                (("or", I(1), ("share", I(1), I(0))), True), (("and", I(1), ("share", I(1), I(0))), False)):
            self.assertEqual(holds(moment, condition), told)
            # Whatever is wrong at the moment.
            wrong = Moment(made, moment.lives, moment.memory, moment.held, moment.stacks, 0, (), (1, "gone"))
            self.assertEqual(holds(wrong, condition), told)
        self.assertTrue(holds(moment=moment, condition=I(1)))

    def candidates(self, past, moments, condition, place, forwards):
        """The candidates of [93], with what is read by hand: through a step that tests the condition."""
        found = []
        while place is not None:
            found.append(place)
            reads = self.reads(moments[place], condition)
            deeds = range(place, past.length) if forwards else range(place - 1, -1, -1)
            writing = [deed for deed in deeds if set(deed_at(past, deed)[5]) & reads]
            place = None if not writing else writing[0] + 1 if forwards else writing[0]
        return found

    def reads(self, moment, condition):
        """What working the condition out reads: done by a program of its own, with the same shared blocks."""
        made = Program((moment.program.shared, (), (("main", (), (), (), "none", (("if", condition, (), ()),)),), ("main",)))
        # No frame of it has blocks: those of the moment are put as made ones.
        memory = {slot: (block[0] if block[0] == "shared" else "made",) + block[1:] for slot, block in moment.memory.items()}
        other = Moment(made, moment.lives, memory, (), (((0, made.functions[0][5], (), (), ""),),), 0, (), None)
        return set(stepped(other, 0, [])[1][0])

    def test_against_all_moments(self):
        held = 0
        for number, (start, story) in enumerate(ROWS):
            past = Past(start, story, EACHES[number % 3])
            moments = moments_of(past)
            for condition in conditions_of(past.program):
                flags = [holds(moment, condition) for moment in moments]
                held += len(set(flags)) - 1
                rows = []
                for place, flag in enumerate(flags):
                    if flag and place and flags[place - 1]:
                        rows[-1][1] = place
                    elif flag:
                        rows.append([place, place])
                self.assertEqual(spans(past, condition), [tuple(row) for row in rows])
                for place in range(0, past.length + 1, 1 + past.length // 9):
                    told, again = first_moment(past, place, condition)
                    right = [spot for spot in range(place, past.length + 1) if flags[spot]]
                    self.assertEqual(told, right[0] if right else None)
                    spots = self.candidates(past, moments, condition, place, True)
                    many = len([spot for spot in spots if told is None or spot <= told])
                    self.assertTrue(0 <= again <= (past.each - 1) * many)
                    told, again = last_moment(past, place, condition)
                    right = [spot for spot in range(place + 1) if flags[spot]]
                    self.assertEqual(told, right[-1] if right else None)
                    spots = self.candidates(past, moments, condition, place, False)
                    many = len([spot for spot in spots if told is None or spot >= told])
                    self.assertTrue(0 <= again <= (past.each - 1) * many)
        self.assertGreater(held, 30)


def stops_of(past, dice):
    """Stops of each kind."""
    made = past.program
    found = [("wrong", word) for word in WORDS]
    found += [("when", condition) for condition in conditions_of(made)]
    looks = looks_of(past, moments_of(past))
    found += [("watch", look) for look in dice.sample(looks, min(12, len(looks)))]
    for number, function in enumerate(made.functions):
        statements = [piece for place, piece in pieces(made, number) if piece[0] in ("let", "store", "make", "away", "ask", "give", "if", "while", "call",
                                                                                    "return", "take", "leave")]
        tests = [I(1), I(0)] + [L(word) for word, sort in function[1] + function[2] if sort == "int"]
        for thread in (None, 0, len(made.threads) - 1):
            found.append(("at", thread, function[0], None, dice.choice(tests)))
            found += [("at", thread, function[0], dice.choice(statements), dice.choice(tests))] if statements else []
    return found


class Stops(unittest.TestCase):
    def test_what_is_one(self):
        made, _ = setting()
        body = made.functions[0][5]
        for thing in (("at", None, "main", None, I(1)), ("at", 1, "main", body[0], L("x")), ("at", 0, "f", ("give", L("a")), ("sum", L("a"), L("b"))),
                      ("at", 0, "f", None, ("same", ("block", "n"), ("block", "n"))), ("watch", ("free",)), ("watch", ("local", 0, 1, "x")), ("when", ("at", S)),
                      ("wrong", "unset"), ("wrong", "kind"), ("wrong", "lock")):
            self.assertTrue(is_stop(made, thing), thing)
        self.assertTrue(is_stop(program=made, thing=("wrong", "deep")))
        inner = program((("if", I(1), (("while", I(0), (("give", I(7)),)),), ()),))
        for statement in (("give", I(7)), ("while", I(0), (("give", I(7)),)), inner.functions[0][5][0]):
            self.assertTrue(is_stop(inner, ("at", None, "main", statement, I(1))))

    def test_what_is_none(self):
        made, _ = setting()
        for thing in (None, 5, (), "at", ("on", None, "main", None, I(1)), ("bad", "deep"), (None, "deep"), ("at", None, ["main"], None, I(1)), ["wrong", "deep"], ("wrong", "bad"), ("wrong", None), ("wrong",), ("wrong", "deep", 1), ("watch", ("way", 0)), ("watch", None),
                      ("watch",), ("when", L("x")), ("when", ("byte", 1)), ("when", None), ("at", 2, "main", None, I(1)), ("at", True, "main", None, I(1)),
                      ("at", -1, "main", None, I(1)), ("at", None, "z", None, I(1)), ("at", None, None, None, I(1)), ("at", None, 0, None, I(1)),
                      ("at", None, "main", ("give", L("a")), I(1)), ("at", None, "main", I(5), I(1)), ("at", None, "main", 5, I(1)), ("at", None, "main", (), I(1)),
                      ("at", None, "f", ["give", L("a")], I(1)), ("at", None, "main", ("call", "x", "f", (("int", True),)), I(1)),
                      ("at", None, "main", None, L("a")), ("at", None, "f", None, L("x")), ("at", None, "f", None, ("block", "n")),
                      ("at", None, "main", None, L("p")), ("at", None, "main", None, None), ("at", None, "main", None), ("at", None, "main", None, I(1), 1)):
            self.assertFalse(is_stop(made, thing), thing)
        made = program((("give", I(1)),))
        self.assertFalse(is_stop(made, ("at", None, "main", ("give", ("int", True)), I(1))))
        self.assertFalse(is_stop(made, ("at", None, "main", I(1), I(1))))

    def works_out(self, moment, thread, test):
        """Whether an expression is worked out to another number than 0 for the top frame: by a step that tests it."""
        made = moment.program
        stack = moment.stacks[thread]
        function = made.functions[stack[-1][0]]
        heads = tuple((("if", test, (("return",) if function[4] == "none" else ("while", I(1), ()),), ()),) if number == stack[-1][0] else () for number in
                      range(len(made.functions)))
        other = Program((made.shared, made.locks, tuple(head[:5] + (body,) for head, body in zip(made.functions, heads)), made.threads))
        stacks = []
        for number, rows in enumerate(moment.stacks):
            stacks.append(tuple((frame[0], (), *frame[2:]) if (number, depth) != (thread, len(stack) - 1) else (frame[0], other.functions[frame[0]][5], *frame[2:])
                                for depth, frame in enumerate(rows)))
        here = Moment(other, moment.lives, moment.memory, moment.held, tuple(stacks), 0, (), None)
        after = stepped(here, thread, [])[0]
        return after.wrong is None and after.stacks[thread][-1][1] != ()

    def places(self, past, moments, stop):
        """The stopping places by a plain look at all moments."""
        deeds = [deed_at(past, place) for place in range(past.length)]
        if stop[0] == "at":
            _, thread, word, statement, test = stop
            found = []
            for place, (entry, function, done, _, _, _) in enumerate(deeds):
                if isinstance(entry, tuple) or past.program.functions[function][0] != word:
                    continue
                if (thread is None or entry == thread) and (statement is None or done == statement) and self.works_out(moments[place], entry, test):
                    found.append(place)
            return found
        if stop[0] == "watch":
            return [place for place in range(1, len(moments)) if shown(moments[place], stop[1]) != shown(moments[place - 1], stop[1])]
        if stop[0] == "when":
            return [place for place in range(1, len(moments)) if holds(moments[place], stop[1]) and not holds(moments[place - 1], stop[1])]
        wrong = wrong_of(past)
        return [wrong[0] + 1] if wrong and wrong[2] == stop[1] else []

    def most_again(self, past, moments, stop, place, answer, forwards):
        """The told bound of what is done again."""
        low, high = (place, past.length if answer is None else answer) if forwards else (0 if answer is None else answer, place)
        deeds = [deed_at(past, number) for number in range(past.length)]
        if stop[0] == "at":
            number = past.program.names.functions[stop[2]]
            steps = [deed for deed in deeds[low:high + 1] if deed[1] == number and (stop[3] is None or deed[2] == stop[3])]
            return (past.each - 1) * len(steps)
        if stop[0] == "when":
            spots = Conditions().candidates(past, moments, stop[1], place, forwards)
            return 2 * past.each * len([spot for spot in spots if low - 1 <= spot <= high])
        if stop[0] == "watch":
            look = stop[1]
            may = 0
            for deed in deeds[max(0, low - 1):high]:
                if look[0] == "local":
                    may += deed[0][:2] == ("local", look[1]) if isinstance(deed[0], tuple) else deed[0] == look[1]
                else:
                    may += look in deed[5] or (look[0] == "cell" and ("block",) + look[1:3] in deed[5])
            return 2 * past.each * may
        return 0

    def test_against_all_moments(self):
        kinds = {}
        for number, (start, story) in enumerate(ROWS):
            past = Past(start, story, EACHES[number % 3])
            moments = moments_of(past)
            for stop in stops_of(past, random.Random(number)):
                places = self.places(past, moments, stop)
                self.assertEqual(stopping_places(past, stop), places, stop)
                kinds[stop[0]] = kinds.get(stop[0], 0) + len(places)
                for place in range(0, past.length + 1, 1 + past.length // 7):
                    told, again = next_stop(past, place, stop)
                    right = [spot for spot in places if spot > place]
                    self.assertEqual(told, right[0] if right else None, (stop, place))
                    self.assertTrue(0 <= again <= self.most_again(past, moments, stop, place, told, True), (stop, place))
                    told, again = last_stop(past, place, stop)
                    right = [spot for spot in places if spot < place]
                    self.assertEqual(told, right[-1] if right else None, (stop, place))
                    self.assertTrue(0 <= again <= self.most_again(past, moments, stop, place, told, False), (stop, place))
        self.assertTrue(all(kinds[kind] > few for kind, few in (("at", 50), ("watch", 50), ("when", 20), ("wrong", 2))), kinds)

    def test_by_hand(self):
        made = caller()
        past = Past(begun(made), ((), (0,) * 34), 4)
        f = made.functions[0][5]
        self.assertEqual(stopping_places(past, ("at", None, "f", f[0], I(1))), [2, 6, 10, 14, 23, 27])
        self.assertEqual(stopping_places(past, ("at", 0, "f", f[0], ("same", L("n"), I(1)))), [10, 23])
        self.assertEqual(stopping_places(past, ("at", 1, "f", None, I(1))), [])
        # An e that goes wrong does not stop: r is unset at first.
        self.assertEqual(stopping_places(past, ("at", None, "f", f[1], ("not", L("r")))), [])
        self.assertEqual(stopping_places(past, ("at", None, "main", None, I(1))), [0, 1, 21, 22, 32, 33])
        self.assertEqual(stopping_places(past, ("watch", ("cell", 0, 1, 0))), [3, 7, 11, 15, 24, 28])
        self.assertEqual(stopping_places(past, ("when", ("below", I(2), ("at", S)))), [11])
        self.assertEqual((next_stop(past, 3, ("when", ("at", S)))[0], last_stop(past, 3, ("when", ("at", S)))[0]), (None, None))
        self.assertEqual((next_stop(past, 2, ("when", ("at", S)))[0], last_stop(past, 4, ("when", ("at", S)))[0]), (3, 3))
        self.assertEqual(next_stop(past, 34, ("watch", ("free",))), (None, 0))
        self.assertEqual(next_stop(past=past, place=0, stop=("wrong", "deep")), (None, 0))
        # A statement that is none: the end of main stops for any statement.
        self.assertIsNone(deed_at(past, 33)[2])

    def test_the_first_places(self):
        made = program((("store", S, I(1)), ("store", S, I(0)), ("store", S, I(2))), (), (("s", "int", 1),))
        past = Past(begun(made), ((), (0,) * 4), 1)
        stop = ("when", ("at", S))
        self.assertEqual((stopping_places(past, stop), stopping_places(past, ("watch", ("cell", 0, 1, 0)))), ([1, 3], [1, 2, 3]))
        self.assertEqual([next_stop(past, place, stop)[0] for place in range(5)], [1, 3, 3, None, None])
        self.assertEqual([last_stop(past, place, stop)[0] for place in range(5)], [None, None, 1, 1, 3])
        self.assertEqual(stopping_places(past, ("when", ("not", ("at", S)))), [2])
        # Each deed that may change what is watched is done once more, whatever each is.
        self.assertEqual(next_stop(past, 0, ("watch", ("cell", 0, 1, 0))), (1, 1))
        self.assertEqual(next_stop(past, 3, ("watch", ("local", 0, 1, "q"))), (None, 1))

    def test_wrong_by_hand(self):
        past = Past(begun(spill()), ((5,), (0,) * 40), 3)
        place = wrong_of(past)[0] + 1
        stop = ("wrong", "beyond")
        self.assertEqual(stopping_places(past, stop), [place])
        self.assertEqual([next_stop(past, spot, stop) for spot in (0, place - 1, place)], [(place, 0), (place, 0), (None, 0)])
        self.assertEqual([last_stop(past, spot, stop) for spot in (0, place)], [(None, 0)] * 2)
        self.assertEqual(stopping_places(past, ("wrong", "gone")), [])

    def test_nothing_is_changed(self):
        past = Past(begun(tally()), ((), (0, 1) * 8), 3)
        other = Past(begun(tally()), ((), (0, 1) * 8), 3)
        looks = [("free",), ("asked",)]
        table_of(past, looks).clear(), spans(past, I(1)).clear(), stopping_places(past, ("watch", ("free",))).append(1), writes_of(past, ("free",)).append(1)
        self.assertEqual(looks, [("free",), ("asked",)])
        self.assertEqual(past, other)
        self.assertEqual(writes_of(past, ("free",)), writes_of(other, ("free",)))


if __name__ == "__main__":
    unittest.main()
