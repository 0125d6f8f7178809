"""Points 1 to 5: what the document promises over the whole program, part beside part; its conventions, limits and errors."""

import ast
import copy
import importlib
import os
import unittest

from made import I, L, all_runs, giving, program, sorter, spill, tally, weaving_of
from wovens import names
from firstwrong.alikes import are_alike
from firstwrong.causes import wrong_causes
from firstwrong.closings import chart_of
from firstwrong.codemoments import code_begun
from firstwrong.codes import code_of
from firstwrong.codesteps import code_run
from firstwrong.counting import weaving_at
from firstwrong.cuts import wrong_in
from firstwrong.disks import Disk
from firstwrong.errors import BadInputs, NotNow
from firstwrong.films import all_back
from firstwrong.flatsteps import flat_first_wrong
from firstwrong.following import followed
from firstwrong.ledgers import Recorder, run_ledger
from firstwrong.moments import begun
from firstwrong.pasts import Past, moment_at, wrong_of
from firstwrong.pens import Pen
from firstwrong.programtexts import program_of_text, text_of
from firstwrong.races import first_race, order_ledger, races
from firstwrong.roads import account_of
from firstwrong.runlogs import read_log
from firstwrong.searches import least_wrong, story_of
from firstwrong.sessions import Session
from firstwrong.sparing import spared
from firstwrong.steps import first_wrong, is_clean, run
from firstwrong.trees import Program, is_tree
from firstwrong.watchers import Watcher, verdict
from firstwrong.wronglines import wrong_line

HERE = os.path.dirname(os.path.abspath(__file__))
PACKAGE = os.path.join(os.path.dirname(HERE), "firstwrong")


class Whole(unittest.TestCase):
    """One run, told by all parts."""

    def test_each_part_tells_the_same_wrong(self):
        met = set()
        for seed, (made, inputs, weaving) in enumerate(all_runs(25, 25)):
            start = begun(made)
            moments, traces = run(start, inputs, weaving)
            wrong = first_wrong(start, inputs, weaving)
            asked = inputs[:moments[-1].asked]
            self.assertEqual(is_clean(start, inputs, weaving), wrong is None)
            # Every layout; checked code, spared code; the text's line; the past; the log.
            for layout in ((0, ()), (7, (9, 3, 200, 1)), (-5, (5,) * 12)):
                self.assertEqual(flat_first_wrong(made, layout, inputs, weaving), wrong)
            code = code_of(made)
            for one in (code, spared(code, chart_of(code))):
                ends, others = code_run(code_begun(one), inputs, weaving)
                self.assertEqual((ends[-1].wrong, others), (moments[-1].wrong, [trace[:2] for trace in traces]))
            line = wrong_line(text_of(made), inputs, weaving)
            self.assertEqual(line and line[1:], wrong and wrong[1:])
            self.assertEqual(wrong_of(Past(start, (tuple(inputs), tuple(weaving)), 7)), wrong)
            pen = Pen(made, Disk([], []))
            for thread, one, other in zip(weaving, moments, moments[1:]):
                pen.do(("step", thread) + ((inputs[one.asked],) if other.asked > one.asked else ()))
            self.assertEqual(wrong_in(made, pen.disk.found()), wrong)
            # Why it went wrong is told just if it did.
            self.assertEqual(account_of(start, inputs, weaving) is None, wrong is None)
            self.assertEqual(wrong_causes(start, inputs, weaving) is None, wrong is None)
            # A verdict: a race, or this wrong.
            told = verdict(start, inputs, weaving)
            race = first_race(start, inputs, weaving)
            if told is None or told[2] != "race":
                self.assertEqual((told, race), (wrong, None))
            else:
                self.assertEqual(told[:2], race[:2])
            # All weavings that keep the ledger have this end; they are alike.
            ledger = run_ledger(start, inputs, weaving)
            other, end = followed(start, inputs, ledger, [seed + 3 * number for number in range(len(weaving))])
            self.assertEqual(end, moments[-1])
            self.assertTrue(are_alike(start, inputs, weaving, other))
            self.assertEqual(all_back(made, inputs, weaving, 3)[0], moments[::-1])
            self.assertEqual(asked, [number for _, number in read_log(made, pen.disk.found())[0] if number is not None])
            met.add(wrong is None)
        self.assertEqual(met, {True, False})

    def test_searched_whole(self):
        """The least wrong run is a story that goes wrong so; a session goes there."""
        made = spill()
        turns = least_wrong(begun(made), [0, 4, 5], 30)
        story = story_of(turns)
        past = Past(begun(made), story, 4)
        self.assertEqual(wrong_of(past)[0], len(turns) - 1)
        session = Session(begun(made), story, 4)
        session.do(("stop", ("wrong", wrong_of(past)[2])))
        session.do(("next",))
        self.assertEqual(session.moment().wrong, wrong_of(past)[1:])
        session.do(("lean",))
        self.assertEqual(session.moment().wrong, wrong_of(past)[1:])

    def test_meetings_and_races_along_one_run(self):
        start = begun(tally())
        weaving = weaving_of(start, [], 60, 4)
        _, traces = run(start, [], weaving)
        recorder, watcher, ended = Recorder(), Watcher(), set()
        for name, trace in zip(names(weaving), traces):
            recorder.seen(name[0], trace)
            if watcher.seen(name[0], trace):
                ended.add(name)
        self.assertEqual(recorder.ledger(), run_ledger(start, [], weaving))
        self.assertEqual(ended, {other for _, other in races(weaving, traces)})
        few = weaving[:8]
        ledger = order_ledger(few, run(start, [], few)[1])
        self.assertEqual(sum(ledger[0]), len(weaving_at(ledger, 0)))


class Conventions(unittest.TestCase):
    def test_nothing_is_kept_between_calls(self):
        """What is told hangs on what is handed in alone: the package has no state of its own."""
        for name in sorted(os.listdir(PACKAGE)):
            if not name.endswith(".py"):
                continue
            with open(os.path.join(PACKAGE, name), encoding="utf-8") as file:
                tree = ast.parse(file.read())
            for node in ast.walk(tree):
                self.assertNotIsInstance(node, (ast.Global, ast.Import))
                if isinstance(node, ast.ImportFrom):
                    self.assertIn(node.module.split(".")[0], ("firstwrong", "math"))
                if isinstance(node, ast.Name):
                    self.assertNotIn(node.id, ("open", "print", "input", "exec", "eval", "id", "hash"))

    def test_twice_the_same(self):
        for made, inputs, weaving in all_runs(5, 20):
            start = begun(made)
            for call in (run, first_wrong, run_ledger, first_race, verdict):
                self.assertEqual(call(start, inputs, weaving), call(begun(Program(copy.deepcopy((made.shared, made.locks, made.functions, made.threads)))), tuple(inputs),
                                                                   tuple(weaving)))

    def test_nothing_handed_in_is_changed(self):
        for made, inputs, weaving in all_runs(5, 20):
            start, past = begun(made), Past(begun(made), (tuple(inputs), tuple(weaving)), 5)
            kept = (list(inputs), list(weaving), dict(start.memory), start.lives, start.stacks)
            for call in (run, run_ledger, first_race, verdict):
                call(start, inputs, weaving)
            session = Session(start, past.story, 5)
            for deed in (("edit", ("cell", 0, 1, 0, 1)), ("on",), ("course", (0,)), ("without", 0)):
                try:
                    session.do(deed)
                except NotNow:
                    pass
            self.assertEqual((inputs, weaving, start.memory, start.lives, start.stacks), kept)
            self.assertEqual(moment_at(past, past.length)[0], run(start, inputs, weaving)[0][-1])

    def test_objects_are_equal_to_no_value_of_another_kind(self):
        made = giving()
        things = [made, begun(made), code_of(made), code_begun(code_of(made)), Past(begun(made), ((), ()), 1), Session(begun(made), ((), ()), 1), Recorder()]
        for number, one in enumerate(things):
            for place, other in enumerate(things + [None, 0, (), "", [], {}]):
                self.assertEqual(one == other, number == place)

    def test_keywords(self):
        """Each function of the interface takes its parameters by name: see test_language, too."""
        self.assertEqual(first_wrong(moment=begun(giving()), inputs=[], weaving=[0]), None)
        self.assertEqual(verdict(moment=begun(giving()), inputs=[], weaving=[0]), None)


class Limits(unittest.TestCase):
    def test_programs(self):
        """8 shared blocks of 16 cells, 4 locks, 12 functions, 6 params, 8 locals, 3 blocks of 8 cells, 4 threads; one more is none."""
        letters = "abcdefghijklmnop"

        def tree(shared=8, cells=16, locks=4, functions=12, params=6, own=8, blocks=3, local_cells=8, threads=4):
            words = ["f" + letter for letter in letters]
            some = (tuple(("p" + letter, "int") for letter in letters[:params]), tuple(("l" + letter, "int") for letter in letters[:own]),
                    tuple(("b" + letter, "int", local_cells) for letter in letters[:blocks]), "none", ())
            heads = (("main", ()) + some[1:],) + tuple((word,) + some for word in words[:functions - 1])
            return (tuple(("s" + letter, "int", cells) for letter in letters[:shared]), tuple("k" + letter for letter in letters[:locks]), heads, ("main",) * threads)

        self.assertTrue(is_tree(tree()))
        for more in ({"shared": 9}, {"cells": 17}, {"locks": 5}, {"functions": 13}, {"params": 7}, {"own": 9}, {"blocks": 4}, {"local_cells": 9}, {"threads": 5}):
            self.assertFalse(is_tree(tree(**more)))
        made = Program(tree())
        # What is greatest has a moment, a chart and a session.
        start = begun(made)
        self.assertEqual(len(start.memory), 8 + 4 * 3)
        self.assertEqual(len(chart_of(code_of(made))[4]), 12)
        self.assertEqual(Session(start, ((), (0, 1, 2, 3)), 1).past(0).length, 4)
        self.assertEqual(run_ledger(start, [], [0, 1, 2, 3])[0], (1, 1, 1, 1))
        self.assertEqual(program_of_text(text_of(made)), made)

    def test_frames_and_blocks(self):
        deep = program((("call", "", "main", ()),))
        self.assertEqual(first_wrong(begun(deep), [], [0] * 12), (11, 0, "deep"))
        wide = program((("make", "p", "int", I(1)), ("give", ("same", L("p"), ("null", "int")))) * 33, (("p", ("to", "int")),))
        given = run(begun(wide), [], [0] * 66)[0][-1].given
        self.assertEqual(given, (0,) * 32 + (1,))


class Errors(unittest.TestCase):
    def test_of_no_object(self):
        """Where an object is wanted and something else is given, ahead of all others."""
        for module, names_, error, count in (
                ("codes", "code_of", "BadTree", 1), ("traits", "bands_of sites_of", "BadCode", 1), ("closings", "chart_of", "BadCode", 1), ("races", "first_race both_ways", "BadMoment", 3),
                ("watchers", "verdict", "BadMoment", 3), ("following", "followed", "BadMoment", 4), ("ledgers", "run_ledger", "BadMoment", 3), ("whatif", "lean_past", "BadPast", 1),
                ("whatif", "deeds_part parting with_input", "BadPast", 0), ("cuts", "fault_in good_part wrong_in pictures_in", "BadTree", 2), ("cuts", "seek beginning_of thinned", "BadTree", 3)):
            found = importlib.import_module("firstwrong." + module)
            kind = getattr(importlib.import_module("firstwrong.errors"), error)
            for name in names_.split():
                call = getattr(found, name)
                with self.assertRaises(kind) as caught:
                    call(*[None] * (count or {"deeds_part": 2, "parting": 2, "with_input": 3}[name]))
                self.assertEqual(list(vars(caught.exception).values()), [None])

    def test_inputs_out_of_their_bounds(self):
        start = begun(sorter())
        for number in (0, 17):
            self.assertRaises(BadInputs, first_wrong, start, [number], [0])
            self.assertRaises(BadInputs, run_ledger, start, [number], [0])
        for number in (1, 16):
            self.assertIsNone(first_wrong(start, [number], [0]))


if __name__ == "__main__":
    unittest.main()
