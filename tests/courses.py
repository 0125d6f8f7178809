"""Stories with idle entries and edits, and their moments by plain stepping, for the tests."""

import random

from made import I, L, Maker, inputs_of, program, sorter, spill, tally
from firstwrong.moments import begun
from firstwrong.steps import stepped
from firstwrong.stories import edited, is_idle
from firstwrong.trees import Program

SHARED = ("shared", "s")


def caller():
    """A thread that calls a function which calls itself, and one that does nothing but wait for a lock."""
    f = ("f", (("n", "int"),), (("r", "int"),), (("m", "int", 1),), "int", (
        ("store", SHARED, ("sum", ("at", SHARED), I(1))), ("let", "r", I(0)),
        ("if", ("below", I(0), L("n")), (("call", "r", "f", (("less", L("n"), I(1)),)),), ()), ("return", ("sum", L("r"), L("n")))))
    main = ("main", (), (("x", "int"),), (), "none", (("take", "k"), ("call", "x", "f", (I(3),)), ("leave", "k"), ("call", "x", "f", (I(1),)),
                                                     ("give", L("x"))))
    other = ("other", (), (("x", "int"),), (), "none", (("take", "k"), ("ask", "x", 0, 5), ("store", SHARED, L("x")), ("leave", "k")))
    return Program(((("s", "int", 2),), ("k",), (f, main, other), ("main", "other")))


def locked():
    """Two threads that each take both locks, in unlike sequences, for ever."""
    one = (("while", I(1), (("take", "k"), ("take", "l"), ("store", SHARED, ("sum", ("at", SHARED), I(1))), ("leave", "l"), ("leave", "k"))),)
    two = (("while", I(1), (("take", "l"), ("take", "k"), ("store", SHARED, I(0)), ("leave", "k"), ("leave", "l"))),)
    return Program(((("s", "int", 1),), ("k", "l"), (("a", (), (), (), "none", one), ("b", (), (), (), "none", two)), ("a", "b")))


def nested():
    """Calls that are first statements, and functions that end at once."""
    a = ("a", (), (), (), "none", (("call", "", "b", ()), ("call", "", "b", ())))
    b = ("b", (), (), (("m", "int", 1),), "none", (("call", "", "c", ()),))
    c = ("c", (), (), (), "none", ())
    return Program(((("s", "int", 1),), (), (a, b, c, ("main", (), (), (), "none", (("call", "", "a", ()), ("call", "", "c", ())))), ("main", "a")))


def some_edit(dice, made, moment):
    """An edit that can be done at the moment, or nearly."""
    words = sorted({word for table in made.names.locals for word in table})
    if words and dice.random() < 0.5:
        return ("local", dice.randrange(len(made.threads)), dice.choice(words), dice.choice((0, 1, 2, None, (0, 0, 0), (0, 1, 0))))
    slot = dice.choice(list(moment.memory) or [0])
    return ("cell", slot, (moment.lives[slot] + 1) // 2 or 1, dice.randrange(2), dice.choice((0, 1, 3, None, (0, 0, 0))))


def course_of(dice, start, inputs, many):
    """A course of so many entries: steps, mostly ones that can be done, and edits."""
    moment, found = start, []
    threads = range(len(start.program.threads))
    for _ in range(many):
        entry = dice.choice(threads) if dice.random() < 0.85 else some_edit(dice, start.program, moment)
        if dice.random() < 0.5 and is_idle(moment, inputs, entry):
            ready = [thread for thread in threads if not is_idle(moment, inputs, thread)]
            entry = dice.choice(ready) if ready else entry
        found.append(entry)
        moment = behind(moment, inputs, entry) or moment
    return tuple(found)


def behind(moment, inputs, entry):
    """The moment behind an entry, None if it is idle."""
    if is_idle(moment, inputs, entry):
        return None
    return edited(moment, entry) if isinstance(entry, tuple) else stepped(moment, entry, inputs)[0]


def plain(start, story):
    """The moments by plain stepping, and the numbers of the entries that are not idle."""
    inputs, course = story
    moments, done = [start], []
    for number, entry in enumerate(course):
        after = behind(moments[-1], inputs, entry)
        if after is not None:
            moments.append(after)
            done.append(number)
    return moments, done


def stories(many, long=40):
    """Pairs (start, story): over the programs by hand, and over random ones."""
    rows = [(spill(), (3, 1)), (spill(), (4, 1)), (spill(), (4, 0)), (tally(), ()), (sorter(), (3, 2, 9, 1)), (caller(), (4,)), (caller(), (9, 3)),
            (locked(), ()), (nested(), ())]
    rows += [(Maker(seed).program(), tuple(inputs_of(seed))) for seed in range(many)]
    found = []
    for seed, (made, inputs) in enumerate(rows):
        dice = random.Random(seed)
        start = begun(made)
        if seed % 5 == 4:
            # A start in the middle of a run, with something asked and given.
            for entry in course_of(dice, start, inputs, 12):
                start = behind(start, inputs, entry) or start
        found.append((start, (inputs, course_of(dice, start, inputs, long + (30 if seed < 9 else 0)))))
    return found
