"""Point 57: plans for going back."""

import itertools
import unittest
from functools import lru_cache
from math import comb

from firstwrong.errors import BadNumber, BadPlan, TooMany
from firstwrong.plans import back_plan, farthest, fewest_steps, is_plan, repeats, times_done

STEP, SHOW = ("step",), ("show",)


def keep(k):
    return ("keep", k)


def take(k):
    return ("take", k)


BY_HAND = (STEP, STEP, STEP, keep(1), STEP, STEP, SHOW, take(1), STEP, SHOW, take(1), SHOW, take(0), STEP, keep(1),
           STEP, SHOW, take(1), SHOW, take(0), SHOW)


@lru_cache(None)
def least(steps, pictures):
    """The fewest steps, by trying each place of the first picture."""
    if steps == 0:
        return 0
    if pictures == 0:
        return steps * (steps + 1) // 2
    return min(m + least(steps - m, pictures - 1) + least(m - 1, pictures) for m in range(1, steps + 1))


def shown(steps, pictures, plan):
    """How often each step is done, act by act; the moments shown must be those told."""
    hand, kept, seen, done = 0, {0: 0}, [], [0] * steps
    for act in plan:
        if act == STEP:
            done[hand] += 1
            hand += 1
        elif act == SHOW:
            seen.append(hand)
        elif act[0] == "keep":
            assert 1 <= act[1] <= pictures
            kept[act[1]] = hand
        else:
            hand = kept[act[1]]
    assert seen == list(range(steps, -1, -1))
    return tuple(done)


class Plans(unittest.TestCase):
    def test_example_by_hand(self):
        self.assertEqual(fewest_steps(5, 1), 8)
        self.assertEqual(fewest_steps(steps=5, pictures=1), 2 * 6 - comb(4, 3))
        self.assertEqual(repeats(5, 1), 2)
        self.assertIs(is_plan(5, 1, BY_HAND), True)
        self.assertEqual(times_done(5, 1, BY_HAND), (2, 2, 1, 2, 1))
        plan = back_plan(5, 1)
        self.assertEqual(sum(times_done(5, 1, plan)), 8)
        self.assertEqual(max(times_done(5, 1, plan)), 2)

    def test_numbers(self):
        for pictures in range(17):
            for times in range(12):
                far = comb(pictures + 1 + times, times) - 1
                self.assertEqual(farthest(pictures=pictures, times=times), far)
                for steps in (far - 1, far, far + 1):
                    if steps >= 0:
                        told = min(t for t in range(20) if steps <= comb(pictures + 1 + t, t) - 1)
                        self.assertEqual(repeats(steps=steps, pictures=pictures), told)
                        self.assertEqual(fewest_steps(steps, pictures),
                                         told * (steps + 1) - comb(pictures + told + 1, pictures + 2))
        self.assertEqual(farthest(0, 1000), 1000)
        self.assertEqual(farthest(16, 1000), comb(1017, 1000) - 1)
        self.assertEqual(farthest(3, 0), 0)
        self.assertEqual(repeats(0, 5), 0)
        self.assertEqual(fewest_steps(0, 0), 0)
        self.assertEqual(repeats(10 ** 9, 0), 10 ** 9)
        self.assertEqual(fewest_steps(10 ** 9, 0), 10 ** 9 * (10 ** 9 + 1) // 2)

    def test_no_plan_has_fewer_steps(self):
        for pictures in range(5):
            for steps in range(60):
                self.assertEqual(fewest_steps(steps, pictures), least(steps, pictures))

    def test_all_plans_of_few_acts(self):
        """Of all short plans of two steps and one picture none has fewer steps."""
        acts = (STEP, SHOW, keep(1), take(0), take(1))
        found = []
        for length in range(1, 9):
            for plan in itertools.product(acts, repeat=length):
                if plan[-1] == SHOW and plan.count(SHOW) == 3 and is_plan(2, 1, plan):
                    found.append(plan)
        self.assertTrue(found)
        for plan in found:
            done = shown(2, 1, plan)
            self.assertEqual(times_done(2, 1, plan), done)
            self.assertGreaterEqual(sum(done), fewest_steps(2, 1))
        self.assertEqual(min(sum(shown(2, 1, plan)) for plan in found), 2)
        self.assertEqual(min(max(shown(2, 1, plan)) for plan in found), 1)

    def test_back_plans(self):
        for pictures in (0, 1, 2, 3, 7, 15, 16):
            for steps in list(range(45)) + [61, 62, 63, 153, 400, 999, 1000]:
                if fewest_steps(steps, pictures) > 2000:
                    with self.assertRaises(TooMany) as caught:
                        back_plan(steps, pictures)
                    self.assertEqual(caught.exception.most, 2000)
                    continue
                plan = back_plan(steps=steps, pictures=pictures)
                self.assertIsInstance(plan, tuple)
                self.assertIs(is_plan(steps, pictures, plan), True)
                done = times_done(steps, pictures, plan)
                self.assertEqual(done, shown(steps, pictures, plan))
                self.assertEqual(sum(done), fewest_steps(steps, pictures))
                self.assertLessEqual(max(done, default=0), repeats(steps, pictures))

    def test_too_many(self):
        last = max(steps for steps in range(1001) if fewest_steps(steps, 1) <= 2000)
        self.assertEqual(sum(times_done(last, 1, back_plan(last, 1))), fewest_steps(last, 1))
        with self.assertRaises(TooMany) as caught:
            back_plan(last + 1, 1)
        self.assertEqual(caught.exception.most, 2000)
        self.assertEqual(fewest_steps(62, 0), 1953)
        self.assertEqual(len([act for act in back_plan(62, 0) if act == STEP]), 1953)
        with self.assertRaises(TooMany):
            back_plan(63, 0)

    def test_no_plans(self):
        bad = [None, 1, "x", [], list(BY_HAND), (), BY_HAND[:-1], BY_HAND[1:], BY_HAND + (SHOW,),
               (take(1),) + BY_HAND, (SHOW,) + BY_HAND, (STEP,) * 3 + BY_HAND]
        for place, act in enumerate(BY_HAND):
            for other in (None, (), "step", ["step"], (None,), ("stop",), ("step", 1), ("show", 0), keep(0), keep(2), keep(True),
                          ("keep",), ("take",), take(2), take(-1), take(False), take(None), ("take", 1, 1)):
                bad.append(BY_HAND[:place] + (other,) + BY_HAND[place + 1:])
        for thing in bad:
            self.assertIs(is_plan(5, 1, thing), False, thing)
            with self.assertRaises(BadPlan):
                times_done(5, 1, thing)
        self.assertIs(is_plan(5, 0, BY_HAND), False)
        self.assertIs(is_plan(4, 1, BY_HAND), False)
        self.assertIs(is_plan(5, 2, BY_HAND), True)
        self.assertIs(is_plan(0, 0, (SHOW,)), True)
        self.assertEqual(times_done(0, 16, (keep(16), take(16), SHOW)), ())
        self.assertIs(is_plan(steps=1, pictures=0, thing=(STEP, SHOW, take(0), SHOW, STEP)), True)
        self.assertIs(is_plan(1, 0, (STEP, STEP, take(0), STEP, SHOW, take(0), SHOW)), False)

    def test_refusals(self):
        for wrong in (-1, 17, True, False, None, "1", 1.0, (1,)):
            for call in (lambda: farthest(wrong, None), lambda: repeats(1, wrong), lambda: fewest_steps(1, wrong),
                         lambda: is_plan(1, wrong, None), lambda: times_done(1, wrong, None), lambda: back_plan(1000, wrong)):
                with self.assertRaises(BadNumber) as caught:
                    call()
                self.assertEqual(caught.exception.part, "pictures")
        for wrong in (-1, 1001, True, None, "1", 1.0):
            for call, part in ((lambda: farthest(0, wrong), "times"), (lambda: is_plan(wrong, None, None), "steps"),
                               (lambda: times_done(wrong, None, None), "steps"), (lambda: back_plan(wrong, None), "steps")):
                with self.assertRaises(BadNumber) as caught:
                    call()
                self.assertEqual(caught.exception.part, part)
        for wrong in (-1, 10 ** 9 + 1, True, None, "1", 1.0):
            for call in (repeats, fewest_steps):
                with self.assertRaises(BadNumber) as caught:
                    call(wrong, None)
                self.assertEqual(caught.exception.part, "steps")


if __name__ == "__main__":
    unittest.main()
