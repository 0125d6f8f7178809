"""Point 29: names, renamings, and steps of renamed moments."""

import copy
import random
import unittest

from made import I, L, all_runs, by_words, program, programs, runs, sorter, spill, tally
from firstwrong.errors import BadInputs, BadMoment, BadNames, BadTree, NotNow
from firstwrong.moments import Moment, begun
from firstwrong.renames import names_back, names_between, program_names, renamed, renamed_moment
from firstwrong.steps import run, stepped
from firstwrong.trees import Program, tree_of

P = ("to", "int")


def small():
    """Two shared blocks, two locks, two functions with params, locals and blocks."""
    main = ("main", (), (("x", "int"), ("p", P)), (("m", "int", 2),), "none", (
        ("take", "a"), ("let", "p", ("shared", "s")), ("store", ("shared", "t"), L("p")), ("store", ("block", "m"), I(4)),
        ("call", "x", "add", (("at", ("block", "m")), I(2))), ("if", L("x"), (("leave", "a"),), ()),
        ("make", "p", "int", I(1)), ("ask", "x", 0, 9), ("while", L("x"), (("let", "x", I(0)),)), ("away", L("p")),
        ("give", ("same", ("shared", "s"), ("at", ("shared", "t"))))))
    add = ("add", (("x", "int"), ("y", "int")), (("z", "int"),), (("m", "byte", 1),), "int", (
        ("let", "z", ("sum", L("x"), L("y"))), ("return", L("z"))))
    return Program(((("s", "int", 2), ("t", P, 1)), ("a", "b"), (main, add), ("main",)))


def some_renaming(made, dice, all_names=False):
    """A renaming of a program: words exchanged, and new ones."""
    names = {}
    classes = {}
    for name in program_names(made):
        classes.setdefault(name[:-1], []).append(name)
    for row in classes.values():
        words = [name[-1] for name in row] + ["new" + c for c in "abcdefghij"]
        for name, word in zip(row, dice.sample(words, len(row))):
            names[name] = word
    if not all_names:
        for row in classes.values():
            # A whole class is left out, so that no word is told twice.
            if dice.random() < 0.3:
                for name in row:
                    del names[name]
    return names


class Names(unittest.TestCase):
    def test_names(self):
        self.assertEqual(program_names(small()), [
            ("function", "add"), ("function", "main"), ("local", "add", "m"), ("local", "add", "x"), ("local", "add", "y"),
            ("local", "add", "z"), ("local", "main", "m"), ("local", "main", "p"), ("local", "main", "x"),
            ("lock", "a"), ("lock", "b"), ("shared", "s"), ("shared", "t")])
        self.assertEqual(program_names(Program(((), (), (), ()))), [])

    def test_wrong_programs(self):
        made = small()
        moment = begun(made)
        for thing in (None, tree_of(made), 5):
            for call in (lambda: program_names(thing), lambda: renamed(thing, 5), lambda: names_back(thing, 5),
                         lambda: names_between(thing, 5), lambda: names_between(thing, made), lambda: names_between(made, thing),
                         lambda: renamed_moment(thing, 5, 5)):
                with self.assertRaises(BadTree) as caught:
                    call()
                self.assertIsNone(caught.exception.at)
        for thing in (None, made, 5):
            with self.assertRaises(BadMoment) as caught:
                renamed_moment(made, thing, 5)
            self.assertIsNone(caught.exception.part)
        with self.assertRaises(BadMoment) as caught:
            renamed_moment(spill(), moment, 5)
        self.assertEqual(caught.exception.part, "program")

    def refused(self, names, key):
        made = small()
        moment = begun(made)
        for call in (lambda: renamed(made, names), lambda: names_back(made, names),
                     lambda: renamed_moment(made, moment, names)):
            with self.assertRaises(BadNames) as caught:
                call()
            self.assertEqual(caught.exception.key, key)

    def test_no_renamings(self):
        for names in (None, [], (), 5, {("shared", "q"): "a"}, {("shared", "s"): "A"}, {("shared", "s"): ""},
                      {("shared", "s"): "abcdefghijklm"}, {("shared", "s"): None}, {"shared": "a"}, {("local", "x"): "a"},
                      {("local", "add", "p"): "a"}, {("shared", "s", "s"): "a"}, {True: "a"}, {("lock", 1): "a"},
                      {("lock", "a"): True}, {("shared", "s"): "t", ("lock", "z"): "y"}):
            self.refused(names, None)

    def test_words_that_two_share(self):
        self.refused({("shared", "s"): "t"}, ("shared", "s"))
        self.refused({("shared", "t"): "s"}, ("shared", "s"))
        self.refused({("lock", "a"): "z", ("lock", "b"): "z"}, ("lock", "a"))
        self.refused({("function", "main"): "add"}, ("function", "add"))
        self.refused({("local", "main", "x"): "m"}, ("local", "main", "m"))
        self.refused({("local", "main", "x"): "m", ("local", "add", "z"): "y", ("shared", "s"): "t"}, ("local", "add", "y"))
        self.refused({("local", "add", "x"): "q", ("local", "add", "m"): "q"}, ("local", "add", "m"))

    def test_words_of_unlike_classes(self):
        names = {("shared", "s"): "a", ("lock", "a"): "s", ("local", "main", "x"): "main", ("local", "add", "x"): "p",
                 ("function", "add"): "x"}
        new = renamed(small(), names)
        self.assertEqual([block[0] for block in new.shared], ["a", "t"])
        self.assertEqual(new.locks, ("b", "s"))
        self.assertEqual([function[0] for function in new.functions], ["main", "x"])
        self.assertEqual(new.functions[1][1], (("p", "int"), ("y", "int")))
        self.assertEqual(new.functions[0][2], (("main", "int"), ("p", P)))
        self.assertEqual(new.functions[0][5][0], ("take", "s"))
        self.assertEqual(new.functions[0][5][4], ("call", "main", "x", (("at", ("block", "m")), I(2))))
        self.assertEqual(new.functions[1][5][0], ("let", "z", ("sum", L("p"), L("y"))))

    def test_exchanged_words(self):
        names = {("shared", "s"): "t", ("shared", "t"): "s", ("lock", "a"): "b", ("lock", "b"): "a"}
        new = renamed(small(), names)
        self.assertEqual(new.shared, (("s", P, 1), ("t", "int", 2)))
        self.assertEqual(new.functions[0][5][1:3], (("let", "p", ("shared", "t")), ("store", ("shared", "s"), L("p"))))
        self.assertEqual(new.threads, ("main",))

    def test_words_of_12_letters(self):
        self.assertEqual(renamed(small(), {("lock", "b"): "abcdefghijkl"}).locks, ("a", "abcdefghijkl"))

    def test_back(self):
        names = {("shared", "s"): "z", ("function", "main"): "go", ("local", "main", "x"): "w"}
        back = names_back(small(), names)
        self.assertEqual(list(back), sorted(back))
        self.assertEqual(back[("local", "go", "w")], "x")
        self.assertEqual(back[("local", "go", "p")], "p")
        self.assertEqual(back[("shared", "z")], "s")
        self.assertEqual(back[("function", "go")], "main")
        new = renamed(small(), names)
        self.assertEqual(list(back), program_names(new))
        self.assertEqual(renamed(new, back), small())

    def test_nothing_is_changed(self):
        names = {("shared", "s"): "z", ("lock", "b"): "c"}
        kept = dict(names)
        made, moment = small(), begun(small())
        tree = copy.deepcopy(tree_of(made))
        renamed(made, names), renamed_moment(made, moment, names), names_back(made, names), names_between(made, made)
        self.assertEqual(names, kept)
        self.assertEqual(tree_of(made), tree)
        self.assertEqual(moment, begun(small()))


class Moments(unittest.TestCase):
    def test_pointers_locks_and_targets(self):
        made = small()
        names = {("shared", "s"): "z", ("lock", "a"): "c", ("local", "main", "x"): "w", ("function", "add"): "plus"}
        moment = run(begun(made), [], [0] * 5)[0][-1]
        new = renamed_moment(made, moment, names)
        self.assertEqual(new.program, renamed(made, names))
        self.assertEqual(new.memory[0], ("shared", P, ((1, 1, 0),)))
        self.assertEqual(new.memory[1][1], "int")
        self.assertEqual(new.held, (None, 0))
        self.assertEqual(new.stacks[0][1][4], "w")
        self.assertEqual(new.stacks[0][0][2], (None, (1, 1, 0)))
        self.assertEqual(new.stacks[0][0][3], ((2, 1),))
        self.assertEqual(new.lives, moment.lives)

    def test_which_pointers_are_led_on(self):
        made = small()
        moment = begun(made)
        names = {("shared", "s"): "z"}
        for pointer, told in (((0, 0, 0), (0, 0, 0)), ((0, 1, 2), (1, 1, 2)), ((0, 7, 16), (1, 7, 16)),
                              ((1, 2 ** 30, 0), (0, 2 ** 30, 0)), ((2, 1, 0), (2, 1, 0)), ((31, 1, 0), (31, 1, 0))):
            stack = ((0, moment.stacks[0][0][1], (None, pointer), moment.stacks[0][0][3], ""),)
            memory = {**moment.memory, 1: ("shared", P, (pointer,))}
            here = Moment(made, moment.lives, memory, (None, None), (stack,), 3, (4,), (0, "null"))
            new = renamed_moment(made, here, names)
            self.assertEqual(new.stacks[0][0][2], (None, told))
            self.assertEqual(new.memory[0], ("shared", P, (told,)))
            self.assertEqual((new.asked, new.given, new.wrong), (3, (4,), (0, "null")))

    def cells_put(self, made, other, names, cells):
        """Cells of a trace with the new slots and the new words of locks."""
        slots = [other.names.shared[names.get(("shared", block[0]), block[0])][0] for block in made.shared]
        found = []
        for cell in cells:
            if cell[0] in ("cell", "block") and cell[1] < len(slots):
                cell = (cell[0], slots[cell[1]]) + cell[2:]
            if cell[0] == "lock":
                cell = ("lock", names.get(cell, cell[1]))
            found.append(cell)
        return tuple(sorted(found))

    def test_heart_over_runs(self):
        rows = all_runs(40) + [(small(), [3], [0] * 20)]
        for seed, (made, inputs, weaving) in enumerate(rows):
            names = some_renaming(made, random.Random(seed))
            other = renamed(made, names)
            back = names_back(made, names)
            self.assertEqual(renamed(other, back), made)
            moment = begun(made)
            self.assertEqual(renamed_moment(made, moment, names), begun(other))
            for thread in weaving:
                told = renamed_moment(made, moment, names)
                # Judged again: what was put is a moment of the other program.
                Moment(other, told.lives, told.memory, told.held, told.stacks, told.asked, told.given, told.wrong)
                self.assertEqual(renamed_moment(other, told, back), moment)
                for other_thread in range(len(made.threads)):
                    self.both(made, other, names, moment, told, other_thread, inputs)
                try:
                    moment, _ = stepped(moment, thread, inputs)
                except NotNow:
                    break

    def both(self, made, other, names, moment, told, thread, inputs):
        try:
            after, trace = stepped(moment, thread, inputs)
        except (NotNow, BadInputs) as error:
            with self.assertRaises(type(error)) as caught:
                stepped(told, thread, inputs)
            self.assertEqual(vars(caught.exception), vars(error))
            return
        new, traced = stepped(told, thread, inputs)
        self.assertEqual(new, renamed_moment(made, after, names))
        self.assertEqual(new.wrong, after.wrong)
        for part in (0, 1):
            self.assertEqual(traced[part], self.cells_put(made, other, names, trace[part]))


class Between(unittest.TestCase):
    def test_renamed_ones(self):
        rows = programs(40) + [small(), spill(), tally(), sorter()] + [row[0] for row in by_words().values()]
        for seed, made in enumerate(rows):
            names = some_renaming(made, random.Random(seed), seed % 2 == 0)
            other = renamed(made, names)
            found = names_between(made, other)
            self.assertEqual(sorted(found), program_names(made))
            self.assertEqual(renamed(made, found), other)
            self.assertEqual(renamed(other, names_between(other, made)), made)

    def test_itself(self):
        for made in programs(10):
            self.assertEqual(renamed(made, names_between(made, made)), made)
        self.assertEqual(names_between(Program(((), (), (), ())), Program(((), (), (), ()))), {})

    def changed(self, thing, at):
        """All trees with one word, number or kind changed somewhere."""
        found = []
        if isinstance(thing, tuple):
            for place, part in enumerate(thing):
                found += [thing[:place] + (new,) + thing[place + 1:] for new in self.changed(part, at + (place,))]
            return found
        if isinstance(thing, int):
            return [thing + 1]
        return [word for word in ("byte", "int", "sum", "less", "p", "x", "m", "q", "a", "b", "s", "t", "add", "main", "away",
                                  "give", "same", "below", "none") if word != thing]

    def test_pairs_that_differ_in_one_piece(self):
        made = small()
        pairs = 0
        for tree in self.changed(tree_of(made), ()):
            try:
                other = Program(tree)
            except BadTree:
                continue
            pairs += 1
            found = names_between(made, other)
            if found is not None:
                self.assertEqual(renamed(made, found), other)
            # Told by hand: what is counted, in which both are unlike whatever the words.
            self.assertEqual(found is None, self.bare(made) != self.bare(other), tree)
        self.assertGreater(pairs, 40)

    def bare(self, made):
        """A program with words in the sequence of their first use."""
        met = {}

        def put(kind, word):
            return met.setdefault((kind, word), len(met))

        def over(number, thing):
            if not isinstance(thing, tuple):
                return thing
            word = thing[0] if thing else None
            if word in ("take", "leave"):
                return (word, put("lock", thing[1]))
            if word == "shared":
                row = [block for block in made.shared if block[0] == thing[1]][0]
                return (word, put(word, thing[1]), row[1:])
            if word in ("local", "block"):
                return (word, put(("own", number), thing[1]))
            if word in ("let", "make", "ask"):
                return (word, put(("own", number), thing[1])) + tuple(over(number, part) for part in thing[2:])
            if word == "call":
                return (word, put(("own", number), thing[1]) if thing[1] else "", put("function", thing[2]),
                        over(number, thing[3]))
            return tuple(over(number, part) for part in thing)

        found = []
        for number, head in enumerate(made.functions):
            put("function", head[0])
            rows = [[(put(("own", number), row[0]),) + row[1:] for row in part] for part in head[1:4]]
            found.append((rows, head[4], over(number, head[5])))
        return (sorted(str(block[1:]) for block in made.shared), len(made.locks), found,
                [put("function", word) for word in made.threads])

    def test_unused_blocks_by_their_forms(self):
        one = program((("give", ("at", ("shared", "b"))),), (), (("a", "int", 1), ("b", "int", 1), ("c", "byte", 2)), ("k", "l"))
        two = program((("give", ("at", ("shared", "a"))),), (), (("a", "int", 1), ("b", "byte", 2), ("c", "int", 1)), ("k", "m"))
        found = names_between(one, two)
        self.assertEqual((found[("shared", "b")], found[("shared", "a")], found[("shared", "c")]), ("a", "c", "b"))
        # The one that is used first, and several that are not.
        rows = (("a", "int", 1), ("b", "int", 1), ("c", "int", 1), ("d", "int", 1))
        many = [program((("give", ("at", ("shared", word))),), (), rows, ("k", "l", "m")) for word in "abcd"]
        for here in many:
            for other in many:
                self.assertEqual(renamed(here, names_between(here, other)), other)
        three = program((("give", ("at", ("shared", "a"))),), (), (("a", "int", 1), ("b", "byte", 2), ("c", "int", 2)), ("k", "m"))
        self.assertIsNone(names_between(one, three))
        four = program((("give", ("at", ("shared", "a"))),), (), (("a", "int", 1), ("b", "byte", 2)), ("k", "m"))
        self.assertIsNone(names_between(one, four))
        self.assertIsNone(names_between(four, one))

    def test_statements_of_unlike_forms(self):
        body = lambda *rows: program(rows, locks=("k",))
        for one, two in ((("take", "k"), ("return",)), (("leave", "k"), ("take", "k")), (("take", "k"), ("give", I(1)))):
            self.assertIsNone(names_between(body(one), body(two)))
            self.assertIsNone(names_between(body(two), body(one)))

    def test_blocks_told_apart_by_their_uses(self):
        def made(first, second):
            return program((("give", ("at", ("shared", first))), ("give", ("at", ("shared", second)))), (),
                           (("a", "int", 1), ("b", "int", 1)))
        self.assertEqual(names_between(made("a", "b"), made("b", "a"))[("shared", "a")], "b")
        self.assertIsNone(names_between(made("a", "a"), made("a", "b")))
        self.assertIsNone(names_between(made("a", "b"), made("a", "a")))


if __name__ == "__main__":
    unittest.main()
