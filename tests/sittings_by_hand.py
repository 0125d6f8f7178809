"""Point 101 once more, deed by deed over a dict, and random deeds, for the tests."""

import random

from courses import caller, locked, nested, some_edit
from made import I, Maker, inputs_of, sorter, spill, tally
from firstwrong.calls import call_of, over, over_back, return_of
from firstwrong.errors import BadStory, NotNow, TooMany
from firstwrong.moments import begun
from firstwrong.pasts import Past, moment_at
from firstwrong.stops import stopping_places
from firstwrong.stories import is_idle
from firstwrong.whatif import deeds_part, lean_past, with_course, with_edit, with_input, without_deed

WORDS = ("a", "b", "c", "door", "abcdefghijkl")


class Refused(Exception):
    """What cannot be done, with its why."""


def need(holds, why):
    if not holds:
        raise Refused(why)


class Hand:
    """A session as the words tell it: all is made anew from the deeds."""

    def __init__(self, start, story, each):
        self.told = (start, story, each)
        self.present, self.taken_back = [], []
        self.again()

    def again(self):
        start, story, each = self.told
        self.pasts, self.rows = [Past(start, story, each)], [(None, None, None)]
        self.branch = self.place = 0
        self.stops, self.looks, self.marks = {}, {}, {}
        for number, deed in enumerate(self.present):
            self.step(deed, self.present[:number])

    def do(self, deed):
        self.step(deed, self.present)
        self.present = self.present + [deed]
        self.taken_back = []

    def undo(self):
        need(self.present, "undo")
        self.taken_back = [self.present[-1]] + self.taken_back
        self.present = self.present[:-1]
        self.again()

    def redo(self):
        need(self.taken_back, "redo")
        deed, *rest = self.taken_back
        self.step(deed, self.present)
        self.present, self.taken_back = self.present + [deed], rest

    def stopping(self):
        past = self.pasts[self.branch]
        return {place for stop in self.stops.values() for place in stopping_places(past, stop)}

    def looked_up(self, call, thread):
        try:
            told = call(self.pasts[self.branch], self.place, thread)
        except NotNow as error:
            raise Refused(error.why) from None
        need(told is not None, "none")
        return told

    def step(self, deed, ahead):
        past = self.pasts[self.branch]
        length, word, place = past.length, deed[0], self.place
        if word == "on":
            need(place < length, "end")
            self.place += 1
        elif word == "back":
            need(place > 0, "start")
            self.place -= 1
        elif word == "to":
            need(deed[1] <= length, "place")
            self.place = deed[1]
        elif word == "next":
            need(place < length, "end")
            self.place = min([spot for spot in self.stopping() if spot > place] + [length])
        elif word == "last":
            need(place > 0, "start")
            self.place = max([spot for spot in self.stopping() if spot < place] + [0])
        elif word in ("over", "under", "call", "out"):
            call = {"over": over, "under": over_back, "call": call_of, "out": return_of}[word]
            self.place = self.looked_up(call, deed[1]) + (word == "out")
        elif word in ("stop", "look"):
            table = self.stops if word == "stop" else self.looks
            need(len(table) < 16, "many")
            table[sum(one[0] == word for one in ahead)] = deed[1]
        elif word in ("drop", "hide"):
            table = self.stops if word == "drop" else self.looks
            need(deed[1] in table, "number")
            del table[deed[1]]
        elif word == "mark":
            need(len(set(self.marks) - {deed[1]}) < 16, "many")
            self.marks[deed[1]] = (self.branch, self.place)
        elif word in ("clear", "goto"):
            need(deed[1] in self.marks, "word")
            if word == "clear":
                del self.marks[deed[1]]
            else:
                self.branch, self.place = self.marks[deed[1]]
        elif word == "branch":
            need(deed[1] < len(self.pasts), "number")
            self.branch, self.place = deed[1], min(place, self.pasts[deed[1]].length)
        else:
            self.new(past, deed)

    def new(self, past, deed):
        need(len(self.pasts) < 32, "many")
        word = deed[0]
        try:
            if word == "edit":
                need(not is_idle(moment_at(past, self.place)[0], past.story[0], deed[1]), "idle")
                found = with_edit(past, self.place, deed[1])[0]
            elif word == "input":
                need(deed[1] < len(past.story[0]), "number")
                found = with_input(past, deed[1], deed[2])[0]
            elif word == "course":
                found = with_course(past, self.place, deed[1])[0]
            elif word == "without":
                need(deed[1] < past.length, "number")
                found = without_deed(past, deed[1])
            else:
                found = lean_past(past)
        except (BadStory, TooMany, NotNow) as error:
            raise Refused({BadStory: "story", TooMany: "length", NotNow: "clean"}[type(error)]) from None
        fork = deeds_part(past, found)
        fork = past.length if fork is None else fork
        self.rows = self.rows + [(self.branch, fork, deed)]
        self.pasts = self.pasts + [found]
        self.branch = len(self.pasts) - 1
        self.place = {"edit": self.place + 1, "course": self.place, "lean": found.length}.get(word, min(self.place, fork))


def starts():
    """Triples (start, story, each)."""
    rows = [(spill(), (5, 1)), (spill(), (4, 1)), (spill(), (3, 0)), (tally(), ()), (sorter(), (3, 2, 9, 1)), (caller(), (4,)), (locked(), ()), (nested(), ())]
    rows += [(Maker(seed).program(), tuple(inputs_of(seed))) for seed in range(8)]
    found = []
    for seed, (made, inputs) in enumerate(rows):
        dice = random.Random(seed)
        many = len(made.threads)
        course = tuple(dice.randrange(many) for _ in range(dice.choice((0, 12, 25, 40)) if seed else 30))
        found.append((begun(made), (inputs, course), dice.choice((1, 4, 16, 256))))
    return found


def some_stop(dice, made):
    """A stop, or one that is nearly one."""
    word = dice.choice(made.functions)[0]
    bodies = [head[5] for head in made.functions if head[0] == word][0]
    statement = dice.choice((None,) + bodies)
    shared = [("at", ("shared", block[0])) for block in made.shared if block[1] == "int"] + [I(1)]
    return dice.choice([("at", dice.choice([None, 0]), word, statement, I(dice.choice((0, 1, 1)))), ("watch", some_look(dice, made)),
                        ("when", ("below", I(0), dice.choice(shared))), ("wrong", dice.choice(("beyond", "unset", "gone")))])


def some_look(dice, made):
    words = sorted({word for table in made.names.locals for word in table}) or ["x"]
    return dice.choice([("local", 0, 1, dice.choice(words)), ("free",), ("asked",), ("given",), ("wrong",), ("cell", 0, 1, 0), ("block", 0, 1)]
                       + [("lock", lock) for lock in made.locks])


def some_deed(dice, hand):
    """A deed of the hand's program, which mostly can be done."""
    made = hand.told[0].program
    past = hand.pasts[hand.branch]
    thread = dice.randrange(len(made.threads))
    small = dice.choice((0, 0, 1, 1, 2, 3, 5, 10 ** 9))
    moment = moment_at(past, hand.place)[0]
    return dice.choice([
        ("on",), ("on",), ("back",), ("next",), ("last",), ("to", dice.randint(0, past.length)), ("to", past.length + 1), ("over", thread), ("under", thread),
        ("out", thread), ("call", thread), ("stop", some_stop(dice, made)), ("look", some_look(dice, made)), ("drop", small), ("hide", small),
        ("mark", dice.choice(WORDS)), ("clear", dice.choice(WORDS)), ("goto", dice.choice(WORDS)), ("branch", dice.randrange(len(hand.pasts) + 1)),
        ("edit", some_edit(dice, made, moment)), ("edit", some_edit(dice, made, moment)), ("input", small, dice.choice((0, 1, 4))),
        ("course", tuple(dice.randrange(len(made.threads)) for _ in range(dice.choice((0, 5, 30))))), ("without", dice.randint(0, past.length)), ("lean",)])


def sat(session, seed, many=40):
    """Does random deeds, takes some back, does some again, with the hand beside it; the hand comes back."""
    dice = random.Random(seed)
    hand = Hand(session.start, session.story, session.each)
    for _ in range(many):
        kind = dice.random()
        try:
            if kind < 0.12:
                hand.undo()
                session.undo()
            elif kind < 0.2:
                hand.redo()
                session.redo()
            else:
                deed = some_deed(dice, hand)
                hand.do(deed)
                session.do(deed)
        except Refused:
            pass
    return hand
