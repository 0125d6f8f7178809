"""Points 75 to 77: logs looked into, cut, thinned and judged."""

import random
import unittest

from made import I, L, all_runs, by_words, program, spill
from firstwrong.cuts import beginning_of, fault_in, good_part, pictures_in, seek, thinned, wrong_in
from firstwrong.disks import Disk
from firstwrong.errors import BadBytes, BadNumber, BadTree, TooMany
from firstwrong.momentbytes import moment_bytes
from firstwrong.moments import begun
from firstwrong.pens import Pen
from firstwrong.records import record_bytes, records_of
from firstwrong.runlogs import log_bytes, logged, read_log
from firstwrong.steps import first_wrong, run
from test_runlogs import joined, mark, picture, pieces_of, small, told


def log_with(made, inputs, weaving, seed):
    """A log with pictures, marks and told records: (records, moments)."""
    dice = random.Random(seed)
    rows, moments = pieces_of(made, inputs, weaving)
    found, spoken = [], 0
    for row, moment in zip(rows, moments):
        found.append(row)
        for _ in range(dice.choice((0, 0, 1, 2))):
            spoken = dice.randint(spoken, len(moment.given))
            found.append(dice.choice((picture(moment), mark(moment), told(spoken))))
    return found, moments


def logs():
    for seed, (made, inputs, weaving) in enumerate(all_runs(15, 15)):
        yield (made, inputs, weaving) + log_with(made, inputs, weaving, seed)


def steps_ahead(records):
    """For each record how many steps stand ahead of its end."""
    return [sum(row[0] == 2 for row in records[:place + 1]) for place in range(len(records))]


NONE = ((), (9, 9), log_bytes(spill(), [], []), (1,), log_bytes(small(), [], [])[:-1])


class Seek(unittest.TestCase):
    def test_pictures(self):
        for made, _, _, records, _ in logs():
            spots = sorted({number for row, number in zip(records, steps_ahead(records)) if row[0] == 3})
            self.assertEqual(pictures_in(made, list(joined(records))), tuple(spots))
            # Those that do not fit, and those behind them, are none.
            self.assertEqual(pictures_in(made, joined(records) + (9,)), tuple(spots))
        made = small()
        self.assertEqual(pictures_in(made, log_bytes(made, [], []) + picture(begun(made)) * 2), (0,))
        for thing in NONE:
            self.assertEqual(pictures_in(made, thing), ())

    def test_seek(self):
        for made, _, _, records, moments in logs():
            thing = joined(records)
            spots = pictures_in(made, thing)
            for number, moment in enumerate(moments):
                nearest = max([0] + [spot for spot in spots if spot <= number])
                self.assertEqual(seek(made, thing, number), (moment, number - nearest))
            for number in (len(moments), -1, True, None, "0"):
                for call in (seek, beginning_of):
                    with self.assertRaises(BadNumber) as caught:
                        call(made, thing, number)
                    self.assertEqual(caught.exception.part, "number")

    def test_without_a_log(self):
        for thing in NONE:
            for number in (0, 1, None, False):
                self.assertRaises(BadNumber, seek, small(), thing, number)
                if number == 0 and number is not False:
                    self.assertEqual(beginning_of(small(), thing, number), ())
                else:
                    self.assertRaises(BadNumber, beginning_of, small(), thing, number)

    def test_of_cut_logs(self):
        made, inputs = spill(), [3, 0]
        records, moments = log_with(made, inputs, [0] * 8, 3)
        thing = joined(records)
        for many in range(len(thing) + 1):
            steps = len(read_log(made, thing[:many])[0])
            whole = logged(made, thing[:many])
            if whole:
                self.assertEqual(seek(made, thing[:many], steps)[0], whole[-1])
            else:
                self.assertRaises(BadNumber, seek, made, thing[:many], 0)


class Beginnings(unittest.TestCase):
    def test_beginning(self):
        for made, inputs, weaving, records, moments in logs():
            thing = joined(records)
            for number in range(len(moments)):
                kept = [row for row, ahead in zip(records, steps_ahead(records)) if ahead <= number]
                told_ = beginning_of(made, list(thing), number)
                self.assertEqual(told_, joined(kept))
                self.assertEqual(logged(made, told_), moments[:number + 1])
            self.assertEqual(beginning_of(made, thing + (9,), len(weaving)), thing)

    def test_thinned(self):
        for seed, (made, inputs, weaving, records, moments) in enumerate(logs()):
            dice = random.Random(seed)
            thing = joined(records)
            for spots in ([], [0], [len(weaving)], list(range(len(weaving) + 1)), dice.choices(range(len(weaving) + 1), k=3)):
                told_ = thinned(made, thing, spots if seed % 2 else tuple(spots))
                wanted = []
                for number in range(len(moments)):
                    wanted += [row for row, ahead in zip(records, steps_ahead(records)) if ahead == number and row[0] in (1, 2, 5)]
                    wanted += [picture(moments[number])] if number in spots else []
                self.assertEqual(told_, joined(wanted))
                self.assertEqual(pictures_in(made, told_), tuple(sorted(set(spots))))
                self.assertEqual((logged(made, told_), read_log(made, told_)[2]), (moments, "whole"))
                for number in range(len(moments)):
                    self.assertEqual(seek(made, told_, number), (moments[number], number - max([0] + [spot for spot in spots if spot <= number])))
            for spots in (None, 5, [len(weaving) + 1], [-1], [True], [None], "0", {0: 1}):
                with self.assertRaises(BadNumber) as caught:
                    thinned(made, thing, spots)
                self.assertEqual(caught.exception.part, "spots")
        for thing in NONE:
            self.assertEqual((thinned(small(), thing, []), thinned(small(), thing, [0])), ((), ()))
            self.assertRaises(BadNumber, thinned, small(), thing, [1])

    def test_great_pictures(self):
        """A picture of more than 65535 bytes is refused only if it is wanted."""
        made = program((("while", I(1), (("give", I(7)),) * 148),))
        many = 16600
        weaving = [0] * many
        disk = Disk([], [])
        pen = Pen(made, disk)
        rows = [record_bytes(2, (0,))] * many
        thing = disk.found() + tuple(byte for row in rows for byte in row)
        moment = run(begun(made), [], weaving[:150])[0][-1]
        self.assertGreater(len(moment_bytes(moment)) + 4 * (many - 150 - many // 149), 65535)
        with self.assertRaises(TooMany) as caught:
            thinned(made, thing, [0, many])
        self.assertEqual(caught.exception.most, 65535)
        self.assertEqual(pictures_in(made, thinned(made, thing, [0, 150])), (0, 150))
        self.assertEqual(pen.steps, 0)


class Faults(unittest.TestCase):
    def test_right_logs(self):
        for made, inputs, weaving, records, _ in logs():
            thing = joined(records)
            for many in (len(thing), len(thing) - 1, len(thing) // 2, 0):
                self.assertIsNone(fault_in(made, thing[:many]))
                good = read_log(made, thing[:many])[1]
                self.assertEqual(good_part(made, list(thing[:many])), thing[:good])

    def test_wrong_places(self):
        """Pictures and marks of other moments; told records too great, falling, of another length; heads."""
        made = program((("give", I(5)), ("ask", "x", -9, 9), ("give", L("x")), ("give", I(6))), (("x", "int"),))
        rows, moments = pieces_of(made, [7], [0] * 5)
        for number in range(len(rows)):
            ahead = rows[:number + 1]
            many = len(moments[number].given)
            for bad in (picture(moments[number - 1]), mark(moments[number - 1]), told(many + 1), told(2 ** 32 - 1), record_bytes(5, (0, 0, 0)), record_bytes(5, (0,) * 5),
                        record_bytes(5, ()), rows[0], record_bytes(2, ()), record_bytes(2, (1,)), record_bytes(2, (0, 0)), record_bytes(4, (0, 0, 0, 0)),
                        record_bytes(3, moment_bytes(moments[number]) + (0,)), record_bytes(4, ()), (0,), (6,), record_bytes(2, (0,) * 6)):
                thing = joined(ahead + [bad] + rows[number + 1:])
                self.assertEqual(fault_in(made, thing), number)
                self.assertEqual(good_part(made, thing), joined(ahead))
            if many:
                thing = joined(ahead + [told(many), told(many - 1)])
                self.assertEqual((fault_in(made, thing), good_part(made, thing)), (number, joined(ahead + [told(many)])))
        self.assertEqual(fault_in(made, joined(rows[1:])), 0)
        self.assertEqual(good_part(made, joined(rows[1:])), ())

    def test_bytes_changed(self):
        """good_part of any bytes: a beginning of them, a log or (), no longer one is a log; good_part of it is the same."""
        for seed, (made, inputs, weaving, records, moments) in enumerate(list(logs())[::4]):
            dice = random.Random(seed)
            thing = joined(records)
            for _ in range(8):
                place = dice.randrange(len(thing))
                other = thing[:place] + (dice.choice((0, 255, thing[place] ^ 1, (thing[place] + 1) % 256)),) + thing[place + 1:]
                good = good_part(made, other)
                steps, many, why = read_log(made, other)
                self.assertEqual((good, fault_in(made, other)), (other[:many], len(steps) if why == "strange" else None))
                self.assertEqual(good_part(made, good), good)
                self.assertIsNone(fault_in(made, good))
                self.assertEqual(good == (), logged(made, good) == [])
                for longer in range(len(good) + 1, len(other) + 1):
                    if longer % 25 == 0 or longer == len(other):
                        self.assertNotEqual(read_log(made, other[:longer])[1], longer)

    def test_cut_at_every_byte(self):
        made = spill()
        for inputs in ([5], [3, 0]):
            records, moments = log_with(made, inputs, [0] * 9, 5)
            thing = joined(records)
            for many in range(len(thing) + 1):
                good = good_part(made, thing[:many])
                self.assertEqual(good, joined([row for place, row in enumerate(records) if len(joined(records[:place + 1])) <= many]))
                self.assertIsNone(fault_in(made, thing[:many]))

    def test_wrong(self):
        met = set()
        for made, inputs, weaving in all_runs(20, 30):
            log = log_bytes(made, inputs[:run(begun(made), inputs, weaving)[0][-1].asked], weaving)
            wrong = first_wrong(begun(made), inputs, weaving)
            self.assertEqual(wrong_in(made, log), wrong)
            met.add(wrong and wrong[2])
            last = record_bytes(*records_of(log)[0][-1])
            for many in range(len(log) - len(last), len(log)):
                self.assertIsNone(wrong_in(made, log[:many]))
            self.assertEqual(wrong_in(made, list(log) + [9]), wrong)
        self.assertTrue(met >= set(by_words()) | {None})
        for thing in NONE:
            self.assertIsNone(wrong_in(small(), thing))

    def test_a_machine_that_fell(self):
        """The wrong step is found again exactly if its record was sure or kept."""
        for rows in by_words().values():
            made = rows[0]
            disk = Disk([], [])
            pen = Pen(made, disk)
            while pen.moment.wrong is None:
                pen.do(("sure",))
                pen.do(("step", 0))
            late = len(disk.late)
            for kept in range(late + 1):
                twin = disk.twin()
                twin.fall(kept)
                found = Pen(made, twin)
                self.assertEqual(wrong_in(made, twin.found()), (pen.steps - 1, 0, pen.moment.wrong[1]) if kept == late else None)
                self.assertEqual(found.steps, pen.steps - (kept < late))


class Errors(unittest.TestCase):
    def test_each(self):
        for call in (lambda p, t: seek(p, t, None), lambda p, t: beginning_of(p, t, None), lambda p, t: thinned(p, t, None), pictures_in, fault_in, good_part, wrong_in):
            for thing in (None, 5, ((), (), (), ())):
                with self.assertRaises(BadTree) as caught:
                    call(thing, None)
                self.assertIsNone(caught.exception.at)
            for thing in (None, 5, "ab", [256], [True], [-1], [[1]], {0: 1}):
                with self.assertRaises(BadBytes) as caught:
                    call(small(), thing)
                self.assertIsNone(caught.exception.at)
        log = log_bytes(small(), [], [])
        self.assertEqual(seek(program=small(), thing=log, number=0), (begun(small()), 0))
        self.assertEqual(beginning_of(program=small(), thing=log, number=0), log)
        self.assertEqual(thinned(program=small(), thing=log, spots=[]), log)

    def test_nothing_is_changed(self):
        records, _ = log_with(spill(), [3, 0], [0] * 6, 1)
        thing, spots = list(joined(records)), [0, 3]
        kept = (list(thing), list(spots))
        thinned(spill(), thing, spots), seek(spill(), thing, 2), good_part(spill(), thing)
        self.assertEqual((thing, spots), kept)


if __name__ == "__main__":
    unittest.main()
