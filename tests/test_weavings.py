"""Points 60 and 69: weavings, meetings, clocks."""

import unittest

from made import all_runs
from wovens import WRONG, ahead, clocks_by_pairs, do_meet, names, woven
from firstwrong.errors import BadStep, BadTraces, BadWeaving
from firstwrong.moments import begun
from firstwrong.steps import run
from firstwrong.weavings import clocks, meetings, must_be_ahead, names_of

CELL = ("cell", 0, 1, 0)
EXAMPLE = ([0, 1, 0], [((), (CELL,), ()), ((CELL,), (CELL,), ()), ((CELL,), (), ())])
NO_WEAVINGS = (None, 5, "01", [4], [-1], [True], [0, None], ["0"], {0: 1}, [[0]])
NO_TRACES = (None, 5, [None], [()], [((), ())], [[(), (), ()]], [([], (), ())], [((), [], ())], [((CELL,), (5,), ())], [((), ((),), ())],
             [((("cells", 0),), (), ())], [((("cell", True),), (), ())], [((("cell", "A"),), (), ())], [((("cell", ""),), (), ())],
             [((("cell", None),), (), ())], [((["cell", 0],), (), ())], [(((0, 1),), (), ())], [((), (), ()), ((), (), ())], [], ((), ()),
             [((("cell", (0,)),), (), ())], [((("cell", "abcdefghijklm"),), (), ())])


class Weavings(unittest.TestCase):
    def test_example_by_hand(self):
        weaving, traces = EXAMPLE
        self.assertEqual(meetings(weaving, traces), [((0, 0), (1, 0)), ((1, 0), (0, 1))])
        self.assertEqual(clocks(weaving, traces), [(1, 0, 0, 0), (1, 1, 0, 0), (2, 1, 0, 0)])
        self.assertTrue(must_be_ahead(weaving, traces, (0, 0), (0, 1)))

    def test_names(self):
        self.assertEqual(names_of([]), [])
        self.assertEqual(names_of((3, 0, 3, 3, 1)), [(3, 0), (0, 0), (3, 1), (3, 2), (1, 0)])
        for seed in range(60):
            self.assertEqual(names_of(woven(seed)[0]), names(woven(seed)[0]))

    def test_meetings_and_clocks(self):
        for seed in range(400):
            weaving, traces = woven(seed)
            rows = names(weaving)
            met = [(rows[i], rows[j]) for j in range(len(rows)) for i in range(j) if weaving[i] != weaving[j] and do_meet(traces[i], traces[j])]
            self.assertEqual(meetings(weaving, traces), met)
            known = ahead(weaving, traces, do_meet)
            self.assertEqual(clocks(tuple(weaving), tuple(traces)), clocks_by_pairs(weaving, known))
            for i, one in enumerate(rows):
                for j, other in enumerate(rows):
                    self.assertEqual(must_be_ahead(weaving, traces, one, other), (i, j) in known)

    def test_wrong_meets_all(self):
        weaving, traces = [0, 1, 2, 0, 2], [((), (), ()), ((), (), ()), ((), (WRONG,), ()), ((), (), ()), ((), (), ())]
        self.assertEqual(meetings(weaving, traces), [((0, 0), (2, 0)), ((1, 0), (2, 0)), ((2, 0), (0, 1))])
        # A cell that is read, or that has more behind its first word, meets by itself alone.
        self.assertEqual(meetings([0, 1], [((WRONG,), (), ()), ((), (), ())]), [])
        self.assertEqual(meetings([0, 1], [((), (("wrong", 1),), ()), ((), (), ())]), [])

    def test_cells_of_all_kinds(self):
        cells = (("cell",), ("cell", "a"), ("cell", 10 ** 40), ("block", 1, "b", 2), ("lock", 5), ("free", "abcdefghijkl"), ("asked",), ("given", 0))
        self.assertEqual(meetings([0, 3], [((), cells, None), (cells, (), None)]), [((0, 0), (3, 0))])
        self.assertEqual(meetings([0, 3], [(cells + cells, (), None), (cells, (), None)]), [])

    def test_runs(self):
        for made, inputs, weaving in all_runs(30, 25):
            traces = run(begun(made), inputs, weaving)[1]
            self.assertEqual(clocks(weaving, traces), clocks_by_pairs(weaving, ahead(weaving, traces, do_meet)))

    def test_errors(self):
        for call in (lambda w, t: names_of(w), meetings, clocks, lambda w, t: must_be_ahead(w, t, None, None)):
            for thing in NO_WEAVINGS:
                self.assertRaises(BadWeaving, call, thing, None)
        for call in (meetings, clocks, lambda w, t: must_be_ahead(w, t, None, None)):
            for thing in NO_TRACES:
                self.assertRaises(BadTraces, call, [0], thing)
        weaving, traces = EXAMPLE
        for thing in (None, 5, (0,), (0, 2), (1, 1), (2, 0), (0, -1), [0, 0], (True, 0), (0, False), (4, 0), ("0", 0), (0, 0, 0)):
            self.assertRaises(BadStep, must_be_ahead, weaving, traces, thing, (0, 0))
            self.assertRaises(BadStep, must_be_ahead, weaving, traces, (0, 0), thing)
        self.assertFalse(must_be_ahead(weaving, traces, (0, 0), (0, 0)))
        self.assertTrue(must_be_ahead(weaving=weaving, traces=traces, one=(1, 0), other=(0, 1)))

    def test_many_steps(self):
        """2000 steps of each thread, all at one cell."""
        weaving = [thread for _ in range(2000) for thread in range(4)]
        traces = [((CELL,), (CELL,), ())] * 8000
        self.assertEqual(clocks(weaving, traces)[-1], (2000, 2000, 2000, 2000))
        traces = [((("free",),), (), ())] * 8000
        self.assertEqual((meetings(weaving, traces), clocks(weaving, traces)[-1]), ([], (0, 0, 0, 2000)))

    def test_nothing_is_changed(self):
        weaving, traces = EXAMPLE
        kept = (list(weaving), list(traces))
        names_of(weaving), meetings(weaving, traces), clocks(weaving, traces)
        self.assertEqual((weaving, traces), kept)


if __name__ == "__main__":
    unittest.main()
