"""Points 72 and 78: logs of runs."""

import random
import unittest

from made import I, L, all_runs, by_words, program, spill, tally, weaving_of
from firstwrong.errors import BadBytes, BadInputs, BadNumber, BadTree, NotNow
from firstwrong.momentbytes import moment_bytes
from firstwrong.moments import begun
from firstwrong.programtexts import text_of
from firstwrong.records import record_bytes, records_of
from firstwrong.rows import four_bytes, mark_of
from firstwrong.runlogs import log_bytes, logged, read_log
from firstwrong.steps import run


def small():
    """The program of point 78."""
    return program((("ask", "x", 0, 9), ("give", L("x"))), (("x", "int"),))


def pieces_of(made, inputs, weaving):
    """The records of a run's log, and the moments behind them."""
    moments, _ = run(begun(made), inputs, weaving)
    rows = [record_bytes(kind, payload) for kind, payload in records_of(log_bytes(made, inputs[:moments[-1].asked], weaving))[0]]
    return rows, moments


def picture(moment):
    return record_bytes(3, moment_bytes(moment))


def mark(moment):
    return record_bytes(4, four_bytes(mark_of(moment_bytes(moment))))


def told(many):
    return record_bytes(5, four_bytes(many))


def joined(rows):
    return tuple(byte for row in rows for byte in row)


class Example(unittest.TestCase):
    def test_by_hand(self):
        log = log_bytes(small(), [7], [0, 0, 0])
        self.assertEqual(len(log), 39)
        head = (1, 4, 0) + four_bytes(mark_of([ord(sign) for sign in text_of(small())]))
        self.assertEqual(log[:11], head + four_bytes(mark_of(head)))
        self.assertEqual(log[11:19], (2, 5, 0, 0, 7, 0, 0, 0))
        self.assertEqual(log[23:27], (2, 1, 0, 0))
        self.assertEqual(read_log(small(), log), (((0, 7), (0, None), (0, None)), 39, "whole"))
        self.assertEqual(read_log(small(), log[:30]), (((0, 7),), 23, "torn"))
        self.assertEqual(logged(small(), log[:30]), run(begun(small()), [7], [0])[0])

    def test_ints_below_0(self):
        made = program((("ask", "x", -(2 ** 31), 2 ** 31 - 1),), (("x", "int"),))
        for number, told_bytes in ((-1, (255,) * 4), (-(2 ** 31), (0, 0, 0, 128)), (2 ** 31 - 1, (255, 255, 255, 127)), (256, (0, 1, 0, 0))):
            log = log_bytes(made, [number], [0])
            self.assertEqual(log[15:19], told_bytes)
            self.assertEqual(read_log(made, log)[0], ((0, number),))


class Logs(unittest.TestCase):
    def test_errors(self):
        made = small()
        for call in (lambda thing: log_bytes(thing, None, None), lambda thing: read_log(thing, None), lambda thing: logged(thing, None)):
            for thing in (None, 5, ((), (), (), ())):
                with self.assertRaises(BadTree) as caught:
                    call(thing)
                self.assertIsNone(caught.exception.at)
        for thing in (None, 5, "ab", [256], [True], [-1]):
            for call in (read_log, logged):
                with self.assertRaises(BadBytes) as caught:
                    call(made, thing)
                self.assertIsNone(caught.exception.at)
        self.assertRaises(BadInputs, log_bytes, made, None, None)
        self.assertRaises(BadInputs, log_bytes, made, [True], None)
        for weaving in (None, [1], [True]):
            with self.assertRaises(BadNumber) as caught:
                log_bytes(made, [7], weaving)
            self.assertEqual(caught.exception.part, "weaving")
        with self.assertRaises(NotNow) as caught:
            log_bytes(made, [], [0])
        self.assertEqual(caught.exception.why, "inputs")
        with self.assertRaises(NotNow) as caught:
            log_bytes(made, [7, 8], [0] * 4)
        self.assertEqual(caught.exception.why, "ended")
        # More inputs than were asked for.
        self.assertRaises(BadInputs, log_bytes, made, [7, 8], [0])
        self.assertRaises(BadInputs, log_bytes, made, [7], [])
        self.assertEqual(log_bytes(program=made, inputs=(7,), weaving=(0,))[:1], (1,))
        self.assertEqual(read_log(program=made, thing=[]), ((), 0, "whole"))
        self.assertEqual(logged(program=made, thing=()), [])

    def test_without_a_head(self):
        made, other = small(), tally()
        head = log_bytes(made, [], [])
        self.assertEqual(read_log(made, head), ((), 11, "whole"))
        self.assertEqual(logged(made, head), [begun(made)])
        for thing, why in (((), "whole"), (head[:5], "torn"), (head[:10], "torn"), (log_bytes(other, [], []), "strange"), ((9,), "strange"),
                           (record_bytes(2, [0]), "strange"), (told(0), "strange"), (record_bytes(1, [1, 2, 3, 4]), "strange"),
                           (record_bytes(1, head[3:7] + (0,)), "strange"), (record_bytes(1, []), "strange"), (record_bytes(4, head[3:7]), "strange")):
            self.assertEqual(read_log(made, thing), ((), 0, why))
            self.assertEqual(logged(made, thing), [])

    def test_heart(self):
        for made, inputs, weaving in all_runs(20, 30):
            moments, _ = run(begun(made), inputs, weaving)
            asked = list(inputs[:moments[-1].asked])
            log = log_bytes(made, asked, weaving)
            steps, good, why = read_log(made, list(log))
            self.assertEqual((good, why), (len(log), "whole"))
            self.assertEqual([thread for thread, _ in steps], list(weaving))
            self.assertEqual([told for _, told in steps if told is not None], asked)
            self.assertEqual(logged(made, log), moments)

    def test_cut_at_every_byte(self):
        for made, inputs, many in ((small(), [7], 3), (spill(), [1], 8), (tally(), [], 12)):
            weaving = weaving_of(begun(made), inputs, many, 1)
            rows, moments = pieces_of(made, inputs, weaving)
            rows = [rows[0], told(0), picture(moments[0])] + [row for step, moment in zip(rows[1:], moments[1:])
                                                             for row in (step, mark(moment), told(len(moment.given)))]
            log = joined(rows)
            ends = [len(joined(rows[:many])) for many in range(len(rows) + 1)]
            whole = read_log(made, log)
            self.assertEqual((len(whole[0]), whole[1:]), (len(weaving), (len(log), "whole")))
            for cut in range(0, len(log) + 1, 1 if len(log) < 700 else 3):
                end = max(end for end in ends if end <= cut)
                steps = sum(row[0] == 2 for row in rows[:ends.index(end)])
                self.assertEqual(read_log(made, log[:cut]), (whole[0][:steps], end, "whole" if cut == end else "torn"))
                if cut % 7 == 0:
                    self.assertEqual(logged(made, log[:cut]), moments[:steps + 1] if end else [])

    def test_bytes_changed(self):
        dice = random.Random(2)
        made, inputs = spill(), [2]
        weaving = weaving_of(begun(made), inputs, 10, 1)
        rows, moments = pieces_of(made, inputs, weaving)
        log = joined(rows)
        ends = [len(joined(rows[:many])) for many in range(len(rows) + 1)]
        for _ in range(400):
            at = dice.randrange(len(log))
            changed = log[:at] + ((log[at] + dice.randrange(1, 256)) % 256,) + log[at + 1:]
            steps, good, why = read_log(made, changed)
            end = max(end for end in ends if end <= at)
            self.assertEqual(good, end)
            self.assertEqual(len(logged(made, changed)), len(steps) + 1 if good else 0)
            self.assertIn(why, ("torn", "strange"))

    def test_what_may_stand_between(self):
        made = program((("give", I(4)), ("give", I(5)), ("give", I(6))))
        rows, moments = pieces_of(made, [], [0, 0, 0])
        head, one, two, three = rows
        start, first, second, third = moments
        for more in ([picture(start)], [mark(start)], [told(0)], [told(0), told(0), mark(start), picture(start), mark(start)]):
            log = joined([head] + more + [one, two])
            self.assertEqual(read_log(made, log), (((0, None),) * 2, len(log), "whole"))
        for more in ([told(0), told(1), told(1)], [told(1), mark(first)], [picture(first), told(0)]):
            log = joined([head, one] + more + [two, told(2), three, told(2), told(3)])
            self.assertEqual(read_log(made, log)[1:], (len(log), "whole"))
        # At wrong places: what stands ahead is told.
        for ahead, wrong in (([head], picture(first)), ([head], mark(first)), ([head], told(1)), ([head, one], picture(start)), ([head, one], mark(start)),
                             ([head, one], told(2)), ([head, one, told(1)], told(0)), ([head, one, two, told(2)], told(1)), ([head, one], head), ([head], head),
                             ([head, one], record_bytes(1, four_bytes(0))), ([head, one], record_bytes(1, four_bytes(1))), ([head, one], record_bytes(3, [])), ([head, one], record_bytes(3, moment_bytes(first)[:-1])),
                             ([head, one], record_bytes(3, moment_bytes(first) + (0,))), ([head, one], record_bytes(4, [1, 2, 3, 4])),
                             ([head, one], record_bytes(4, [])), ([head, one], record_bytes(5, [0, 0, 0])), ([head, one], record_bytes(5, [0, 0, 0, 0, 0])),
                             ([head, one], told(2 ** 32 - 1))):
            log = joined(ahead)
            steps = sum(row[0] == 2 for row in ahead)
            self.assertEqual(read_log(made, log + wrong + two), (((0, None),) * steps, len(log), "strange"))
            self.assertEqual(logged(made, log + wrong + two), moments[:steps + 1])
            self.assertEqual(read_log(made, log + wrong[:-1]), (((0, None),) * steps, len(log), "torn"))

    def test_wrong_steps(self):
        made = program((("take", "k"), ("ask", "x", 0, 9), ("give", L("x"))), (("x", "int"),), locks=("k",), threads=("main", "main"))
        head, take = pieces_of(made, [], [0])[0]
        ask = record_bytes(2, (0,) + four_bytes(7))
        for ahead, wrong in (([], [1 + 1]), ([], [255]), ([], [0, 7, 0, 0, 0]), ([], []), ([], [0, 0]), ([], [0, 0, 0, 0, 0, 0]), ([take], [1]), ([take], [0]),
                             ([take], [0, 10, 0, 0, 0]), ([take], (0,) + (255,) * 4), ([take], [1, 7, 0, 0, 0]), ([take, ask], [0, 7, 0, 0, 0])):
            log = joined([head] + ahead)
            told_log = read_log(made, log + record_bytes(2, wrong))
            self.assertEqual((len(told_log[0]), told_log[1:]), (len(ahead), (len(log), "strange")), wrong)
        self.assertEqual(read_log(made, joined([head, take, ask]))[0], ((0, None), (0, 7)))

    def test_runs_that_go_wrong(self):
        for row in by_words().values():
            made = row[0]
            weaving = weaving_of(begun(made), [], 40, 0)
            log = log_bytes(made, [], weaving)
            last = logged(made, log)[-1]
            self.assertIsNotNone(last.wrong)
            # The wrong step is a record too; behind it no step fits, but what tells of the moment does.
            more = log + picture(last) + mark(last) + told(len(last.given))
            self.assertEqual(read_log(made, more)[1:], (len(more), "whole"))
            self.assertEqual(read_log(made, log + record_bytes(2, [0]))[1:], (len(log), "strange"))

    def test_nothing_is_changed(self):
        made, inputs, weaving = small(), [7], [0, 0]
        log = list(log_bytes(made, inputs, weaving))
        kept = list(log)
        read_log(made, log), logged(made, log).clear()
        self.assertEqual((inputs, weaving, log), ([7], [0, 0], kept))


if __name__ == "__main__":
    unittest.main()
