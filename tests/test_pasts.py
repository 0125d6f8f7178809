"""Points 91 and 94: pasts and their calls, against plain stepping."""

import unittest

from courses import caller, locked, plain, stories
from made import I, L, program, runs, tally
from firstwrong.calls import call_of, depths, frames_of, over, over_back, return_of
from firstwrong.errors import BadMoment, BadNumber, BadPast, BadStory, NotNow
from firstwrong.moments import Moment, begun
from firstwrong.pasts import Past, asks, cut_past, deed_at, gives, gone_on, moment_at, rest_past, waits, wrong_of
from firstwrong.steps import run, stepped

ROWS = stories(14)
EACHES = (1, 3, 8, 256)


def pasts():
    """Pasts of all stories, each with another number of each, with their plain moments."""
    for number, (start, story) in enumerate(ROWS):
        yield Past(start, story, EACHES[number % 4]), plain(start, story)


class Pasts(unittest.TestCase):
    def test_moments(self):
        for start, story in ROWS:
            moments, done = plain(start, story)
            for each in EACHES:
                past = Past(start, story, each)
                self.assertEqual((past.start, past.story, past.each, past.program), (start, story, each, start.program))
                self.assertEqual(past.length, len(done))
                self.assertEqual(past.idle, tuple(number for number in range(len(story[1])) if number not in done))
                for place, moment in enumerate(moments):
                    told, again = moment_at(past, place)
                    self.assertEqual(told, moment)
                    self.assertTrue(0 <= again <= each - 1)

    def test_what_is_kept(self):
        """No moments are kept but those whose places are multiples of each."""
        for start, story in ROWS:
            for each in EACHES:
                past = Past(start, story, each)
                met = self.moments_in(vars(past))
                self.assertLessEqual(met, past.length // each + 2)

    def moments_in(self, thing):
        if isinstance(thing, Moment):
            return 1
        if isinstance(thing, dict):
            return sum(self.moments_in(part) for part in thing.values())
        if isinstance(thing, (list, tuple)):
            return sum(self.moments_in(part) for part in thing)
        return 0

    def test_deeds(self):
        for past, (moments, done) in pasts():
            inputs, course = past.story
            for number, entry in enumerate(course[place] for place in done):
                told = deed_at(past, number)
                if isinstance(entry, tuple):
                    cells = (entry[:4],) if entry[0] == "cell" else ()
                    self.assertEqual(told, (entry, None, None, None, (), cells))
                    continue
                after, trace = stepped(moments[number], entry, inputs)
                function, todo = moments[number].stacks[entry][-1][:2]
                statement = todo[0] if todo else None
                asked = inputs[moments[number].asked] if statement and statement[0] == "ask" else None
                self.assertEqual(told, (entry, function, statement, asked) + trace[:2])

    def test_asks_gives_wrong(self):
        met = set()
        for past, (moments, done) in pasts():
            course = past.story[1]
            asked, given, wrong = [], [], None
            for number, place in enumerate(done):
                ahead, after = moments[number], moments[number + 1]
                if after.asked > ahead.asked:
                    asked.append((number, course[place], past.story[0][ahead.asked]))
                if len(after.given) > len(ahead.given):
                    given.append((number, course[place], after.given[-1]))
                if after.wrong is not None:
                    wrong = (number,) + after.wrong
            self.assertEqual((asks(past), gives(past), wrong_of(past)), (asked, given, wrong))
            met |= {"ask"} if asked else set()
            met |= {"give"} if given else set()
            met |= {"wrong"} if wrong else set()
        self.assertEqual(met, {"ask", "give", "wrong"})

    def held(self, moment, thread):
        """Whether a thread is held, as [33] tells it."""
        stack = moment.stacks[thread]
        if moment.wrong is not None or stack == () or stack[-1][1] == () or stack[-1][1][0][0] != "take":
            return False
        lock = moment.program.locks.index(stack[-1][1][0][1])
        return moment.held[lock] not in (None, thread)

    def test_waits(self):
        found = 0
        for past, (moments, _) in pasts():
            for thread in range(len(past.program.threads)):
                rows, flags = [], [self.held(moment, thread) for moment in moments]
                for place, flag in enumerate(flags):
                    if flag and (place == 0 or not flags[place - 1]):
                        last = place
                        while last + 1 < len(flags) and flags[last + 1]:
                            last += 1
                        rows.append((place, last))
                self.assertEqual(waits(past, thread), rows)
                found += len(rows)
        self.assertGreater(found, 5)

    def test_waits_by_hand(self):
        made = locked()
        # Both take their first lock; each is held from then on.
        past = Past(begun(made), ((), (0, 0, 1, 1, 0, 1, ("cell", 0, 1, 0, 5))), 4)
        self.assertEqual((waits(past, 0), waits(past, 1)), ([(4, 5)], [(4, 5)]))
        self.assertEqual(past.idle, (4, 5))
        wrong = Moment(made, begun(made).lives, begun(made).memory, (1, 1), begun(made).stacks, 0, (), (0, "lock"))
        self.assertEqual(waits(Past(wrong, ((), (0,)), 1), 0), [])

    def test_cut_and_rest(self):
        for past, (moments, done) in pasts():
            inputs, course = past.story
            for place in (0, 1, past.length // 2, past.length - 1, past.length):
                if not 0 <= place <= past.length:
                    continue
                cut = cut_past(past, place)
                self.assertEqual(cut, Past(past.start, (inputs, tuple(course[number] for number in done[:place])), past.each))
                self.assertEqual((cut.length, cut.idle), (place, ()))
                self.assertEqual(moment_at(cut, place)[0], moments[place])
                rest = rest_past(past, place)
                behind = course[done[place]:] if place < past.length else ()
                self.assertEqual(rest, Past(moments[place], (inputs, behind), past.each))
                self.assertEqual(rest.length, past.length - place)
                self.assertEqual(moment_at(rest, rest.length)[0], moments[-1])

    def test_without_idle_entries(self):
        for past, (moments, _) in pasts():
            other = cut_past(past, past.length)
            self.assertEqual([moment_at(other, place)[0] for place in range(past.length + 1)], moments)

    def test_those_of_run(self):
        for made, inputs, weaving in runs(15):
            past = Past(begun(made), (tuple(inputs), tuple(weaving)), 5)
            moments, traces = run(begun(made), inputs, weaving)
            self.assertEqual([moment_at(past, place)[0] for place in range(past.length + 1)], moments)
            self.assertEqual([deed_at(past, number)[4:] for number in range(past.length)], [trace[:2] for trace in traces])

    def test_gone_on(self):
        made = program((("ask", "x", 0, 9), ("give", L("x"))), (("x", "int"),))
        past = Past(begun(made), ((), (0,)), 2)
        self.assertEqual(past.idle, (0,))
        # With an input more the first entry is idle no longer.
        further = gone_on(past, [5], [0])
        self.assertEqual(further, Past(begun(made), ((5,), (0, 0)), 2))
        self.assertEqual((further.length, gives(further)), (2, [(1, 0, 5)]))
        self.assertEqual(gone_on(past=past, inputs=(), course=()), past)
        for inputs, course in ((None, []), ([], None), (5, 5), ([True], []), ([2 ** 31], []), (["1"], []), ([], [1]), ([], [True]), ([], [None]),
                               ([], "0"), ("", []), ([], [0] * 2048), ([], [("local", 1, "x", 0)])):
            self.assertRaises(BadStory, gone_on, past, inputs, course)
        self.assertEqual(gone_on(past, [], [0] * 2047).length, 0)
        self.assertEqual(past, Past(begun(made), ((), (0,)), 2))

    def test_equal(self):
        made = tally()
        past = Past(begun(made), ((), (0, 1)), 2)
        self.assertEqual(past, Past(start=begun(tally()), story=((), (0, 1)), each=2))
        for other in (Past(begun(made), ((), (0, 1)), 3), Past(begun(made), ((), (0, 0)), 2), Past(begun(made), ((1,), (0, 1)), 2),
                      Past(run(begun(made), [], [0])[0][-1], ((), (0, 1)), 2), None, 5, ((), (0, 1))):
            self.assertNotEqual(past, other)

    def test_errors(self):
        made = tally()
        start = begun(made)
        for thing in (None, made, 5):
            with self.assertRaises(BadMoment) as caught:
                Past(thing, None, None)
            self.assertIsNone(caught.exception.part)
        for story in (None, ([], ()), ((), []), ((), (2,)), ((True,), ()), ((), (0,) * 2049), [(), ()]):
            self.assertRaises(BadStory, Past, start, story, 0)
        for each in (0, 257, -1, True, None, "1"):
            with self.assertRaises(BadNumber) as caught:
                Past(start, ((), ()), each)
            self.assertEqual(caught.exception.part, "each")
        self.assertEqual(Past(start, ((), (0,) * 2048), 256).length, len(Past(start, ((), (0,) * 2048), 1).entries))
        past = Past(start, ((), (0, 1, 0)), 2)
        calls = (lambda thing: moment_at(thing, None), lambda thing: deed_at(thing, None), lambda thing: cut_past(thing, None),
                 lambda thing: rest_past(thing, None), lambda thing: gone_on(thing, None, None), asks, gives, wrong_of, lambda thing: waits(thing, None),
                 lambda thing: depths(thing, None), lambda thing: call_of(thing, None, None), lambda thing: return_of(thing, None, None),
                 lambda thing: over(thing, None, None), lambda thing: over_back(thing, None, None), lambda thing: frames_of(thing, None))
        for call in calls:
            for thing in (None, start, 5):
                with self.assertRaises(BadPast) as caught:
                    call(thing)
                self.assertIsNone(caught.exception.part)
        for call in (lambda place: moment_at(past, place), lambda place: cut_past(past, place), lambda place: rest_past(past, place),
                     lambda place: deed_at(past, 3 if place == 4 else place), lambda place: call_of(past, place, None),
                     lambda place: return_of(past, place, None), lambda place: over(past, place, None), lambda place: over_back(past, place, None)):
            for place in (-1, 4, True, None, "1"):
                with self.assertRaises(BadNumber) as caught:
                    call(place)
                self.assertEqual(caught.exception.part, "place")
        for call in (lambda thread: waits(past, thread), lambda thread: depths(past, thread), lambda thread: frames_of(past, thread),
                     lambda thread: call_of(past, 0, thread), lambda thread: return_of(past, 0, thread), lambda thread: over(past, 0, thread),
                     lambda thread: over_back(past, 0, thread)):
            for thread in (-1, 2, True, None):
                with self.assertRaises(BadNumber) as caught:
                    call(thread)
                self.assertEqual(caught.exception.part, "thread")

    def test_nothing_is_changed(self):
        made = tally()
        past = Past(begun(made), ((), (0, 1, 0)), 2)
        asks(past).append(1), gives(past).append(1), waits(past, 0).append(1)
        inputs, course = [1], [0]
        gone_on(past, inputs, course)
        self.assertEqual((asks(past), gives(past), waits(past, 0), inputs, course), ([], [], [], [1], [0]))


class Calls(unittest.TestCase):
    def test_against_plain_looks(self):
        frames = 0
        for past, (moments, done) in pasts():
            course = [past.story[1][place] for place in done]
            for thread in range(len(past.program.threads)):
                heights = [len(moment.stacks[thread]) for moment in moments]
                self.assertEqual(depths(past, thread), tuple(heights))
                self.assertEqual(frames_of(past, thread), self.frames(past, moments, thread))
                frames += len(frames_of(past, thread))
                for place, high in enumerate(heights):
                    if high == 0:
                        for call in (call_of, return_of, over, over_back):
                            with self.assertRaises(NotNow) as caught:
                                call(past, place, thread)
                            self.assertEqual(caught.exception.why, "ended")
                        continue
                    began = [deed for deed in range(place) if heights[deed] < high and heights[deed + 1] >= high]
                    self.assertEqual(call_of(past, place, thread), began[-1] if began else None)
                    ends = [deed for deed in range(place, len(course)) if heights[deed + 1] < high]
                    self.assertEqual(return_of(past, place, thread), ends[0] if ends else None)
                    behind = [deed + 1 for deed in range(place, len(course)) if course[deed] == thread and heights[deed + 1] <= high]
                    self.assertEqual(over(past, place, thread), behind[0] if behind else None)
                    ahead = [deed for deed in range(place) if course[deed] == thread and heights[deed] <= high]
                    self.assertEqual(over_back(past, place, thread), ahead[-1] if ahead else None)
                    # The HEART: there and back again.
                    if behind and place < len(course) and course[place] == thread and heights[behind[0]] == high:
                        self.assertEqual(over_back(past, behind[0], thread), place)
        self.assertGreater(frames, 40)

    def frames(self, past, moments, thread):
        """All frames, each with the places at which it stands."""
        open_now, found = [], []
        for place, moment in enumerate(moments):
            stack = moment.stacks[thread]
            while len(open_now) > len(stack):
                open_now.pop()[3] = place - 1
            for depth in range(len(open_now), len(stack)):
                frame = [past.program.functions[stack[depth][0]][0], depth + 1, place, None]
                open_now.append(frame)
                found.append(frame)
        for frame in open_now:
            frame[3] = len(moments) - 1
        return [tuple(frame) for frame in found]

    def test_by_hand(self):
        made = caller()
        # take; call f(3): store, let, if, call f(2): store, let, if, call f(1): ..
        past = Past(begun(made), ((), (0,) * 60), 7)
        self.assertEqual(past.length, 34)
        self.assertEqual(depths(past, 0)[:12], (1, 1, 2, 2, 2, 2, 3, 3, 3, 3, 4, 4))
        self.assertEqual(frames_of(past, 0)[:3], [("main", 1, 0, 33), ("f", 2, 2, 20), ("f", 3, 6, 19)])
        self.assertEqual(frames_of(past, 1), [("other", 1, 0, 34)])
        self.assertIsNone(call_of(past, 0, 0))
        self.assertEqual((call_of(past, 2, 0), return_of(past, 2, 0)), (1, 20))
        self.assertEqual((over(past, 1, 0), over_back(past, 21, 0)), (21, 1))
        self.assertEqual((over(past, 2, 0), over(past, 5, 0), over_back(past, 20, 0)), (3, 20, 5))
        self.assertEqual((over_back(past, 0, 0), over(past, 0, 1)), (None, None))
        self.assertEqual(return_of(past, 32, 0), 33)
        self.assertIsNone(return_of(past, 0, 1))
        self.assertRaises(NotNow, call_of, past, 34, 0)

    def test_frames_of_the_start(self):
        made = caller()
        start = run(begun(made), [], [0] * 6)[0][-1]
        past = Past(start, ((), (0, 0)), 1)
        self.assertEqual(frames_of(past, 0), [("main", 1, 0, 2), ("f", 2, 0, 2), ("f", 3, 0, 2)])
        self.assertIsNone(call_of(past, 1, 0))

    def test_wrong_deeds_are_steps(self):
        made = program((("give", I(1)), ("leave", "k")), locks=("k",))
        past = Past(begun(made), ((), (0, 0, 0)), 1)
        self.assertEqual((past.length, past.idle), (2, (2,)))
        self.assertEqual((over(past, 1, 0), over_back(past, 2, 0), wrong_of(past)), (2, 1, (1, 0, "lock")))


if __name__ == "__main__":
    unittest.main()
