"""Point 95: pasts with something exchanged, against pasts made of the whole story."""

import random
import unittest

from courses import caller, plain, some_edit, stories
from made import I, L, by_words, program, sorter, spill, tally
from firstwrong import pasts
from firstwrong.errors import BadEdit, BadNumber, BadPast, BadStory, NotNow, TooMany
from firstwrong.moments import begun
from firstwrong.pasts import Past, cut_past, deed_at, gone_on, moment_at, rest_past, wrong_of
from firstwrong.stories import is_idle
from firstwrong.whatif import (deeds_part, lean_past, parting, reach_of_edit, with_course, with_edit, with_input,
                               without_deed)

ROWS = stories(16, 30)
EACHES = (1, 3, 8, 256)


def all_pasts():
    for number, (start, story) in enumerate(ROWS):
        yield Past(start, story, EACHES[number % 4])


def moments(past):
    return plain(past.start, past.story)[0]


def seen_of(past):
    """All that a past holds."""
    return {word: value for word, value in vars(past).items()}


class Counted:
    """Counts the deeds that are done while it is open."""

    def __enter__(self):
        self.many = 0
        self.kept = pasts.done_entry, pasts.step_of, pasts.edited_of
        def count(deed):
            def counted(*told):
                result = deed(*told)
                self.many += result is not None
                return result
            return counted
        pasts.done_entry, pasts.step_of, pasts.edited_of = map(count, self.kept)
        return self

    def __exit__(self, *told):
        pasts.done_entry, pasts.step_of, pasts.edited_of = self.kept


class Partings(unittest.TestCase):
    def pairs(self):
        """Pasts beside others of the same start."""
        for number, past in enumerate(all_pasts()):
            dice = random.Random(number)
            course = past.story[1]
            cut = dice.randrange(len(course))
            others = [past, cut_past(past, past.length // 2), Past(past.start, (past.story[0][:1], course), 5), Past(past.start, ((), ()), 1),
                      Past(past.start, (past.story[0], course[:cut] + course[cut + 1:]), 7),
                      Past(past.start, (tuple(dice.choice((0, 1, 2)) for _ in past.story[0]), course), 2),
                      Past(past.start, (past.story[0], course[:cut] + (some_edit(dice, past.program, past.start),) + course[cut:]), 4)]
            for other in others:
                yield past, other
                yield other, past

    def test_deeds_part(self):
        met = set()
        for one, other in self.pairs():
            first = [deed_at(one, number)[::3][:2] for number in range(one.length)]
            second = [deed_at(other, number)[::3][:2] for number in range(other.length)]
            told = next((p for p in range(max(len(first), len(second))) if first[p:p + 1] != second[p:p + 1]), None)
            self.assertEqual(deeds_part(one, other), told)
            met.add(told is None)
            self.look(one, other, told)
        self.assertEqual(met, {True, False})

    def look(self, one, other, deed):
        """The place at which moments part."""
        first, second = moments(one), moments(other)
        both = min(len(first), len(second))
        told = next((p for p in range(both) if first[p] != second[p]), None)
        with Counted() as counted:
            place, again = parting(one, other)
        self.assertEqual((place, again), (told, counted.many))
        most = one.each - 1 + other.each - 1
        if deed is not None:
            most += 2 * ((both - 1 if told is None else told) - deed)
        self.assertLessEqual(again, most)

    def test_an_edit_that_does_nothing(self):
        """Deeds may part where moments never do."""
        start = begun(spill())
        one = Past(start, ((3,), (0, 0, 0)), 4)
        other = Past(start, ((3,), (0, 0, ("local", 0, "times", 3), 0)), 4)
        self.assertEqual(deeds_part(one, other), 2)
        self.assertEqual(parting(one, other)[0], 3)
        other = Past(start, ((3,), (0, 0, ("local", 0, "times", 3))), 4)
        self.assertEqual((deeds_part(one, other), parting(one, other)[0]), (2, 3))
        self.assertEqual(deeds_part(cut_past(one, 2), other), 2)
        self.assertEqual(parting(cut_past(one, 2), other), (None, 0))

    def test_errors(self):
        past = Past(begun(spill()), ((), ()), 1)
        for call in (deeds_part, parting):
            for one, other, part in ((None, past, None), (past, None, None), (past, Past(begun(tally()), ((), ()), 1), "fit"), (5, Past(begun(tally()), ((), ()), 1), None)):
                with self.assertRaises(BadPast) as caught:
                    call(one, other)
                self.assertEqual(caught.exception.part, part)
        self.assertIsNone(deeds_part(one=past, other=Past(begun(spill()), ((4,), ()), 9)))


class With(unittest.TestCase):
    def judge(self, told, past, story, most, counted):
        """What comes is the past of the whole story."""
        found, again = told
        whole = Past(past.start, story, past.each)
        self.assertEqual(found, whole)
        self.assertEqual(seen_of(found), seen_of(whole))
        self.assertEqual(again, counted.many)
        self.assertLessEqual(again, most(found))

    def test_input(self):
        met = 0
        for number, past in enumerate(all_pasts()):
            inputs, course = past.story
            for at in range(len(inputs)):
                for size in (0, 1, 4, -(2 ** 31), 2 ** 31 - 1, inputs[at]):
                    story = (inputs[:at] + (size,) + inputs[at + 1:], course)
                    with Counted() as counted:
                        told = with_input(past, at, size)
                    place = self.wanted(past, at)
                    met += place is None
                    self.judge(told, past, story, lambda new: 0 if place is None else past.each - 1 + new.length - place, counted)
        self.assertGreater(met, 20)

    def wanted(self, past, at):
        """The place at which an entry first wants the input; None if none does."""
        inputs, course = past.story
        row, done = plain(past.start, past.story)
        for number, entry in enumerate(course):
            place = sum(one < number for one in done)
            moment = row[place]
            if isinstance(entry, tuple) or moment.wrong or moment.asked != at or not moment.stacks[entry]:
                continue
            todo = moment.stacks[entry][-1][1]
            if todo and todo[0][0] == "ask":
                return place
        return None

    def test_course(self):
        for number, past in enumerate(all_pasts()):
            dice = random.Random(number)
            inputs, course = past.story
            for place in {0, past.length // 2, past.length}:
                ahead = past.entries[place] if place < past.length else len(course)
                for new in ((), course[ahead:], course[:7], [0, 0, 0], [some_edit(dice, past.program, past.start)] * 2, [0] * (2048 - ahead)):
                    if len(new) > 100 and number > 2:
                        continue
                    with Counted() as counted:
                        told = with_course(past, place, new)
                    self.judge(told, past, (inputs, course[:ahead] + tuple(new)), lambda _: past.each - 1 + len(new), counted)
                self.assertRaises(BadStory, with_course, past, place, [0] * (2049 - ahead))

    def test_edit(self):
        met = set()
        for number, past in enumerate(all_pasts()):
            dice = random.Random(number)
            inputs, course = past.story
            row = moments(past)
            for place in sorted({0, past.length // 3, past.length - 1, past.length} & set(range(past.length + 1))):
                ahead = past.entries[place] if place < past.length else len(course)
                for _ in range(4):
                    edit = some_edit(dice, past.program, row[place])
                    with Counted() as counted:
                        told = with_edit(past, place, edit)
                    self.judge(told, past, (inputs, course[:ahead] + (edit,) + course[ahead:]), lambda new: past.each - 1 + new.length - place, counted)
                    reach = reach_of_edit(past, place, edit)
                    others = moments(told[0])
                    idle = is_idle(row[place], inputs, edit)
                    unlike = [p for p in range(place, len(row)) if p + 1 < len(others) and row[p] != others[p + 1]]
                    self.assertEqual(reach, [] if idle else unlike)
                    # The facts.
                    if not idle and row[place] == others[place + 1]:
                        self.assertEqual(reach, [])
                    elif not idle:
                        self.assertEqual(reach[0], place)
                    met.add((idle, bool(reach)))
        self.assertEqual(met, {(True, False), (False, True), (False, False)})

    def test_without(self):
        for past in all_pasts():
            inputs, course = past.story
            for place in sorted({0, past.length // 2, past.length - 1} & set(range(past.length))):
                entry = past.entries[place]
                told, whole = without_deed(past, place), Past(past.start, (inputs, course[:entry] + course[entry + 1:]), past.each)
                self.assertEqual(told, whole)
                self.assertEqual(seen_of(told), seen_of(whole))

    def test_what_comes_of_what_came(self):
        """Pasts that were grown can be grown on."""
        for number, past in enumerate(all_pasts()):
            dice = random.Random(number)
            for _ in range(8):
                place = dice.randint(0, past.length)
                kind = dice.randrange(5)
                if kind == 0:
                    past = with_edit(past, place, some_edit(dice, past.program, moment_at(past, place)[0]))[0]
                elif kind == 1:
                    past = with_course(past, place, [dice.randrange(len(past.program.threads)) for _ in range(20)])[0]
                elif kind == 2 and past.story[0]:
                    past = with_input(past, dice.randrange(len(past.story[0])), dice.choice((0, 1, 2, 3)))[0]
                elif kind == 3 and past.length:
                    past = without_deed(past, dice.randrange(past.length))
                elif kind == 4:
                    past = gone_on(past, [1], [0])
            whole = Past(past.start, past.story, past.each)
            self.assertEqual(seen_of(past), seen_of(whole))
            for place in range(past.length + 1):
                self.assertEqual(moment_at(past, place), moment_at(whole, place))
                self.assertEqual(rest_past(past, place), rest_past(whole, place))

    def test_errors(self):
        past = Past(begun(spill()), ((3, 0), (0,) * 20), 4)
        edit = ("local", 0, "spot", 1)
        for call in (lambda p: with_input(p, None, None), lambda p: with_course(p, None, None), lambda p: with_edit(p, None, None), lambda p: reach_of_edit(p, None, None),
                     lambda p: without_deed(p, None), lean_past):
            for thing in (None, 5, past.story):
                with self.assertRaises(BadPast) as caught:
                    call(thing)
                self.assertIsNone(caught.exception.part)
        cases = [(lambda n=n: with_input(past, n, None), "number") for n in (2, -1, True, None)]
        cases += [(lambda s=s: with_input(past, 0, s), "size") for s in (2 ** 31, -(2 ** 31) - 1, True, None, "0")]
        for call in (lambda n: with_course(past, n, None), lambda n: with_edit(past, n, None), lambda n: reach_of_edit(past, n, None)):
            cases += [(lambda n=n, call=call: call(n), "place") for n in (past.length + 1, -1, True, None)]
        cases += [(lambda n=n: without_deed(past, n), "place") for n in (past.length, -1, True, None)]
        for call, part in cases:
            with self.assertRaises(BadNumber) as caught:
                call()
            self.assertEqual(caught.exception.part, part)
        for course in (None, 5, "0", [1], [True], [None], [("local", 0, "spot", True)], {0: 1}, [(0,)]):
            self.assertRaises(BadStory, with_course, past, 3, course)
        for thing in (None, 5, (), list(edit), ("local", 1, "spot", 1), ("local", 0, "spot", True)):
            self.assertRaises(BadEdit, with_edit, past, 3, thing)
            self.assertRaises(BadEdit, reach_of_edit, past, 3, thing)
        long = Past(begun(tally()), ((), (0,) * 2048), 64)
        for call in (with_edit, reach_of_edit):
            self.assertRaises(BadStory, call, long, 0, ("local", 0, "turn", 1))
            # Also an edit that would be idle.
            self.assertRaises(BadStory, call, long, 0, ("local", 0, "nothing", 1))
        self.assertEqual(with_input(past=past, number=0, size=3)[0], past)
        self.assertEqual(with_course(past=past, place=0, course=past.story[1])[0], past)
        self.assertEqual(with_edit(past=past, place=0, edit=edit)[0].length, past.length + 1)
        self.assertEqual(reach_of_edit(past=past, place=past.length, edit=("local", 0, "times", 3)), reach_of_edit(past, past.length, ("local", 0, "times", 3)))

    def test_nothing_is_changed(self):
        past = Past(begun(spill()), ((3, 0), (0,) * 20), 4)
        before, course = repr(sorted(vars(past))), [0, ("local", 0, "spot", 1)]
        kept = {word: list(value) if isinstance(value, list) else value for word, value in vars(past).items()}
        with_input(past, 0, 4), with_course(past, 3, course), with_edit(past, 4, course[1]), without_deed(past, 2), reach_of_edit(past, 4, course[1])
        self.assertEqual((repr(sorted(vars(past))), course), (before, [0, ("local", 0, "spot", 1)]))
        self.assertEqual({word: value for word, value in vars(past).items()}, kept)


class Lean(unittest.TestCase):
    def wrong_pasts(self):
        for rows in by_words().values():
            for made in rows:
                yield Past(begun(made), ((), (0,) * 30), 3)
        yield Past(begun(spill()), ((5,), (0, ("local", 0, "row", None), 0, 0, ("local", 0, "spot", 2)) + (0,) * 40), 4)
        yield Past(begun(spill()), ((4, 1), (0,) * 40), 256)
        yield Past(begun(caller()), ((9, 3), (0, 1, ("cell", 0, 1, 0, None), 1) + (0, 1) * 20), 5)
        for past in all_pasts():
            if wrong_of(past) is not None and past.length <= 64:
                yield past

    def test_each(self):
        fewer = 0
        for past in self.wrong_pasts():
            lean = lean_past(past)
            fewer += lean.length < past.length
            deed, thread, word = wrong_of(past)
            self.assertEqual(wrong_of(lean), (lean.length - 1, thread, word))
            self.assertEqual((lean.start, lean.story[0], lean.each, lean.idle), (past.start, past.story[0], past.each, ()))
            for place in range(lean.length):
                told = wrong_of(Past(lean.start, (lean.story[0], lean.story[1][:place] + lean.story[1][place + 1:]), 1))
                self.assertNotEqual(told and told[1:], (thread, word))
            self.assertEqual(lean, self.by_hand(past))
        self.assertGreater(fewer, 5)

    def by_hand(self, past):
        """As the words tell it."""
        kept = [past.story[1][number] for number in past.entries]
        going = True
        while going:
            going = False
            for place in reversed(range(len(kept))):
                told = wrong_of(Past(past.start, (past.story[0], tuple(kept[:place] + kept[place + 1:])), past.each))
                if told is not None and told[1:] == wrong_of(past)[1:]:
                    del kept[place]
                    going = True
        return Past(past.start, (past.story[0], tuple(kept)), past.each)

    def test_errors(self):
        x = L("x")
        made = program((("let", "x", I(0)),) + (("let", "x", ("sum", x, I(1))),) * 63 + (("give", ("share", I(1), I(0))),), (("x", "int"),))
        for steps, error in ((64, NotNow), (65, TooMany)):
            past = Past(begun(made), ((), (0,) * steps), 8)
            with self.assertRaises(error) as caught:
                lean_past(past)
            self.assertEqual(list(vars(caught.exception).values()), ["clean" if error == NotNow else 64])
        short = program((("let", "x", I(0)),) + (("let", "x", I(1)),) * 62 + (("give", ("share", I(1), I(0))),), (("x", "int"),))
        self.assertEqual(lean_past(past=Past(begun(short), ((), (0,) * 70), 8)).length, 64)
        clean = Past(begun(sorter()), ((1, 1), (0,) * 100), 8)
        with self.assertRaises(NotNow) as caught:
            lean_past(clean)
        self.assertEqual(caught.exception.why, "clean")


if __name__ == "__main__":
    unittest.main()
