"""Points 58 and 59: thinned pictures, and films gone back from each step."""

import unittest
from itertools import combinations
from math import comb

from made import I, L, all_runs, program, tally
from firstwrong.errors import BadFilm, BadInputs, BadNumber, BadTree, NotNow, TooMany
from firstwrong.films import all_back, film_at, film_back, film_begun, film_on
from firstwrong.moments import begun
from firstwrong.plans import fewest_steps, is_plan, repeats, times_done
from firstwrong.steps import run
from firstwrong.thinning import first_way, kept_places, thin_plan


def terms(number, pictures):
    """a above b above .. above z, found by trying all of them: the terms of the one way."""
    many = pictures + 1
    for some in combinations(range(number + many), many):
        told = [comb(a, many - place) for place, a in enumerate(sorted(some, reverse=True))]
        if sum(told) == number:
            return told
    return None


class Kept(unittest.TestCase):
    def test_by_counting(self):
        for pictures, most in ((0, 6), (1, 14), (2, 14), (3, 9)):
            for steps in range(most):
                told = terms(steps, pictures)
                sums = [sum(told[:many]) for many in range(1, pictures + 1)]
                self.assertEqual(kept_places(steps, pictures), tuple(sorted(set(sums) - {0})), (steps, pictures))

    def test_example(self):
        self.assertEqual(kept_places(8, 1), (6,))
        self.assertEqual([kept_places(steps, 1) for steps in (0, 1, 2, 3, 5, 6, 9, 10)], [(), (1,), (1,), (3,), (3,), (6,), (6,), (10,)])
        self.assertEqual(kept_places(5, 0), ())
        self.assertEqual(kept_places(steps=8, pictures=1), (6,))

    def test_no_place_comes_back(self):
        for pictures in range(17):
            for steps in range(250):
                here, behind = kept_places(steps, pictures), kept_places(steps + 1, pictures)
                self.assertLessEqual(set(behind), set(here) | {steps + 1})
                self.assertLessEqual(len(here), pictures)
                self.assertEqual(list(here), sorted(set(here)))

    def test_great_numbers(self):
        for pictures in range(17):
            places = kept_places(10 ** 9, pictures)
            left, bound = 10 ** 9, 10 ** 10
            for number, place in enumerate(places):
                below = pictures + 1 - number
                term = place - (10 ** 9 - left)
                low, high = below - 1, 10 ** 5 if below > 1 else 10 ** 10
                while high - low > 1:
                    middle = (low + high) // 2
                    low, high = (middle, high) if comb(middle, below) <= left else (low, middle)
                self.assertEqual(comb(low, below), term)
                self.assertLess(low, bound)
                left, bound = left - term, low
            self.assertTrue(left < bound if len(places) == pictures else left == 0)

    def test_errors(self):
        for call in (kept_places, first_way, thin_plan):
            for steps in (-1, None, True, "1", 10 ** 9 + 1):
                with self.assertRaises(BadNumber) as caught:
                    call(steps, 17)
                self.assertEqual(caught.exception.part, "steps")
            for pictures in (-1, 17, None, True):
                with self.assertRaises(BadNumber) as caught:
                    call(5, pictures)
                self.assertEqual(caught.exception.part, "pictures")
        kept_places(1001, 3)
        for call in (first_way, thin_plan):
            with self.assertRaises(BadNumber) as caught:
                call(1001, 3)
            self.assertEqual(caught.exception.part, "steps")


class FirstWay(unittest.TestCase):
    def test_by_hand(self):
        step, keep = ("step",), ("keep", 1)
        self.assertEqual(first_way(0, 3), ())
        self.assertEqual(first_way(3, 0), (step,) * 3)
        self.assertEqual(first_way(4, 1), (step, keep, step, step, keep, step))
        # 1 = C(3, 3); 2 = 1 + C(2, 2); 3 = 1 + 1 + C(1, 1); 4 = C(4, 3); 5 = 4 + C(2, 2).
        self.assertEqual(first_way(5, 2), (step, ("keep", 1), step, ("keep", 2), step, step, ("keep", 1), step, ("keep", 2)))

    def test_pictures_hold_what_is_kept(self):
        for pictures in (0, 1, 2, 3, 5, 16):
            long = first_way(120, pictures)
            held, place, at = {}, 0, 0
            for act in long + (("step",),):
                if act == ("step",):
                    self.assertEqual(set(kept_places(place, pictures)) - set(held.values()), set())
                    self.assertEqual(first_way(place, pictures), long[:at])
                    place += 1
                else:
                    # The least picture that holds no moment that is still wanted.
                    wanted = kept_places(place, pictures)
                    free = [k for k in range(1, pictures + 1) if held.get(k) not in wanted]
                    self.assertEqual(act, ("keep", free[0]))
                    held[act[1]] = place
                at += 1

    def test_longest(self):
        self.assertEqual(first_way(1000, 2).count(("step",)), 1000)


class ThinPlan(unittest.TestCase):
    def test_plans(self):
        for pictures in range(17):
            for steps in list(range(60)) + [100, 170, 171, 400, 666]:
                if repeats(steps, pictures) * steps > 2000:
                    self.assertRaises(TooMany, thin_plan, steps, pictures)
                    continue
                plan = thin_plan(steps, pictures)
                self.assertTrue(is_plan(steps, pictures, plan))
                way = first_way(steps, pictures)
                self.assertEqual(plan[:len(way)], way)
                self.assertLessEqual(max(times_done(steps, pictures, plan), default=0), repeats(steps, pictures))

    def test_too_many(self):
        # 44 steps without a picture are done 44 times at most: 1936; 45 times 45 is 2025.
        self.assertTrue(is_plan(44, 0, thin_plan(44, 0)))
        for steps, pictures in ((45, 0), (667, 16), (1000, 16)):
            with self.assertRaises(TooMany) as caught:
                thin_plan(steps, pictures)
            self.assertEqual(caught.exception.most, 2000)
        self.assertEqual((repeats(666, 16) * 666, repeats(667, 16) * 667), (1998, 2001))
        # Just 2000, and one step more.
        self.assertEqual((repeats(500, 10), repeats(501, 10)), (4, 4))
        self.assertTrue(is_plan(500, 10, thin_plan(500, 10)))
        self.assertRaises(TooMany, thin_plan, 501, 10)


def endless():
    """Two threads that give for ever."""
    return program((("let", "x", I(0)), ("while", I(1), (("give", L("x")), ("let", "x", ("sum", L("x"), I(1)))))), (("x", "int"),),
                   threads=("main", "main"))


class Films(unittest.TestCase):
    def test_each_step(self):
        made = endless()
        weaving = [0, 1, 1, 0, 0] * 9
        for pictures in (0, 1, 2, 3, 16):
            moments, _ = run(begun(made), [], weaving)
            film = film_begun(made, [], pictures)
            for steps in range(len(weaving) + 1):
                self.assertEqual((film.program, film.inputs, film.pictures), (made, (), pictures))
                self.assertEqual(film.weaving, tuple(weaving[:steps]))
                self.assertEqual(film.moment, moments[steps])
                self.assertEqual(list(film.kept), list(kept_places(steps, pictures)))
                self.assertTrue(all(film.kept[place] == moments[place] for place in film.kept))
                self.at_each_place(film, moments, steps)
                if repeats(steps, pictures) * steps <= 2000:
                    shown, times = film_back(film)
                    self.assertEqual(shown, moments[steps::-1])
                    self.assertEqual(len(times), steps)
                    self.assertLessEqual(max(times, default=0), repeats(steps, pictures))
                if steps < len(weaving):
                    before = film
                    film = film_on(film, weaving[steps])
                    self.assertEqual(before.weaving, tuple(weaving[:steps]))

    def at_each_place(self, film, moments, steps):
        bases = [0] + list(film.kept)
        for place in range(steps + 1):
            told = 0 if place == steps else place - max(base for base in bases if base <= place)
            self.assertEqual(film_at(film, place), (moments[place], told))

    def test_runs(self):
        for number, (made, inputs, weaving) in enumerate(all_runs(12, 30)):
            pictures = number % 4
            moments, _ = run(begun(made), inputs, weaving)
            film = film_begun(made, inputs, pictures)
            for thread in weaving:
                film = film_on(film, thread)
            self.assertEqual(film_back(film)[0], moments[::-1])
            self.assertEqual(all_back(made, inputs, weaving, pictures), (moments[::-1], fewest_steps(len(weaving), pictures)))

    def test_steps_are_counted(self):
        """No more steps are done than told."""
        import firstwrong.films as films
        made, weaving = endless(), [0, 1] * 15
        done, kept = [], films.step_of
        try:
            films.step_of = lambda *some: done.append(1) or kept(*some)
            for pictures in (0, 1, 3):
                del done[:]
                self.assertEqual(all_back(made, [], weaving, pictures)[1], len(done))
                film = film_begun(made, [], pictures)
                for thread in weaving:
                    film = film_on(film, thread)
                del done[:]
                for place in range(31):
                    del done[:]
                    self.assertEqual(film_at(film, place)[1], len(done))
                del done[:]
                self.assertEqual(sum(film_back(film)[1]), len(done) + 30)
        finally:
            films.step_of = kept

    def test_errors_of_films(self):
        made = tally()
        for call in (lambda: film_begun(None, None, None), lambda: film_begun(5, None, None)):
            with self.assertRaises(BadTree) as caught:
                call()
            self.assertIsNone(caught.exception.at)
        for inputs in (None, [True], [2 ** 31], 5):
            self.assertRaises(BadInputs, film_begun, made, inputs, None)
        for pictures in (-1, 17, True, None):
            with self.assertRaises(BadNumber) as caught:
                film_begun(made, (), pictures)
            self.assertEqual(caught.exception.part, "pictures")
        film = film_begun(program=made, inputs=[1, 2], pictures=2)
        self.assertEqual(film.inputs, (1, 2))
        for thing in (None, made, begun(made), 5):
            for call in (lambda: film_on(thing, None), lambda: film_at(thing, None), lambda: film_back(thing)):
                self.assertRaises(BadFilm, call)
        for thread in (-1, 2, True, None):
            with self.assertRaises(BadNumber) as caught:
                film_on(film, thread)
            self.assertEqual(caught.exception.part, "thread")
        for place in (-1, 1, True, None):
            with self.assertRaises(BadNumber) as caught:
                film_at(film, place)
            self.assertEqual(caught.exception.part, "place")
        with self.assertRaises(NotNow) as caught:
            film_on(self.at_lock(film), 1)
        self.assertEqual(caught.exception.why, "held")

    def at_lock(self, film):
        """Thread 0 holds the lock, thread 1 wants it."""
        for thread in (0, 0, 0, 1, 1):
            film = film_on(film, thread)
        return film

    def test_wrong_steps_and_inputs(self):
        made = program((("ask", "x", 0, 3), ("leave", "k")), (("x", "int"),), locks=("k",))
        film = film_begun(made, [2, 9], 1)
        film = film_on(film_on(film, 0), 0)
        self.assertEqual(film.moment.wrong, (0, "lock"))
        with self.assertRaises(NotNow) as caught:
            film_on(film, 0)
        self.assertEqual(caught.exception.why, "wrong")
        self.assertEqual(film_back(film)[0], run(begun(made), [2], [0, 0])[0][::-1])
        self.assertRaises(BadInputs, film_on, film_begun(made, [9], 1), 0)
        with self.assertRaises(NotNow) as caught:
            film_on(film_begun(made, [], 1), 0)
        self.assertEqual(caught.exception.why, "inputs")

    def test_too_long_to_go_back(self):
        made = endless()
        film = film_begun(made, [], 0)
        for _ in range(44):
            film = film_on(film, 0)
        self.assertEqual(len(film_back(film)[0]), 45)
        film = film_on(film, 0)
        with self.assertRaises(TooMany) as caught:
            film_back(film)
        self.assertEqual(caught.exception.most, 2000)

    def test_longest_ways_back(self):
        made = endless()
        self.assertEqual((fewest_steps(729, 16), fewest_steps(730, 16)), (2000, 2003))
        moments, done = all_back(made, [], [0] * 729, 16)
        self.assertEqual((len(moments), done), (730, 2000))
        for many in (730, 1000, 1001, 5000):
            with self.assertRaises(TooMany) as caught:
                all_back(made, [], [0] * many, 16)
            self.assertEqual(caught.exception.most, 2000)
        film = film_begun(made, [], 16)
        for number in range(1002):
            if number in (667, 1001):
                with self.assertRaises(TooMany) as caught:
                    film_back(film)
                self.assertEqual(caught.exception.most, 2000)
            film = film_on(film, 0)

    def test_errors_of_all_back(self):
        made = tally()
        self.assertRaises(BadTree, all_back, None, None, None, None)
        self.assertRaises(BadInputs, all_back, made, [True], None, None)
        for weaving in (None, [2], [True], 5):
            with self.assertRaises(BadNumber) as caught:
                all_back(made, [], weaving, None)
            self.assertEqual(caught.exception.part, "weaving")
        with self.assertRaises(BadNumber) as caught:
            all_back(made, [], [0] * 3000, 17)
        self.assertEqual(caught.exception.part, "pictures")
        # fewest_steps(62, 0) is 1953, fewest_steps(63, 0) is 2016; what cannot be done comes behind.
        self.assertEqual((fewest_steps(62, 0), fewest_steps(63, 0)), (1953, 2016))
        with self.assertRaises(NotNow) as caught:
            all_back(made, [], [0] * 62, 0)
        self.assertEqual(caught.exception.why, "ended")
        with self.assertRaises(TooMany) as caught:
            all_back(made, [], [0] * 63, 0)
        self.assertEqual(caught.exception.most, 2000)
        self.assertEqual(len(all_back(endless(), [], [0] * 62, 0)[0]), 63)
        self.assertEqual(all_back(program=made, inputs=(), weaving=(), pictures=0), ([begun(made)], 0))

    def test_nothing_is_changed(self):
        made, inputs, weaving = endless(), [1, 2], [0, 1, 0]
        all_back(made, inputs, weaving, 1)
        film = film_on(film_begun(made, inputs, 1), 0)
        shown, _ = film_back(film)
        shown.clear()
        self.assertEqual((inputs, weaving), ([1, 2], [0, 1, 0]))
        self.assertEqual(len(film_back(film)[0]), 2)


if __name__ == "__main__":
    unittest.main()
