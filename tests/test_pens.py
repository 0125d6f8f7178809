"""Points 73 and 74: pens that record runs on disks, and falls."""

import random
import unittest

from made import I, L, all_runs, by_words, program, tally
from firstwrong.disks import Disk
from firstwrong.errors import BadBytes, BadDeed, BadDisk, BadInputs, BadLog, BadNumber, BadTree, NotNow, OldPen, TooMany
from firstwrong.momentbytes import moment_bytes
from firstwrong.moments import Moment, begun
from firstwrong.pens import Pen, fallen
from firstwrong.records import record_bytes, records_of
from firstwrong.rows import four_bytes, mark_of
from firstwrong.runlogs import log_bytes, logged, read_log
from firstwrong.steps import run, stepped
from firstwrong.trees import Program
from test_runlogs import pieces_of, small

HEAD = len(log_bytes(small(), [], []))


def fresh(made=None):
    return Pen(made or small(), Disk([], []))


def state(pen):
    """All that is seen of a pen and its disk."""
    return (pen.life, pen.moment, pen.steps, pen.told, pen.disk.sure, pen.disk.late, pen.disk.life)


def deeds_of(made, inputs, weaving, seed):
    """The deeds by which a pen records a run, with others between them."""
    dice = random.Random(seed)
    moments, _ = run(begun(made), inputs, weaving)
    found = []
    for thread, one, other in zip(weaving, moments, moments[1:]):
        found += dice.choices([("picture",), ("mark",), ("sure",), ("tell",)], k=dice.choice((0, 0, 1, 2)))
        found.append(("step", thread, inputs[one.asked]) if other.asked > one.asked else ("step", thread))
    return found + dice.choices([("picture",), ("mark",), ("sure",), ("tell",)], k=3)


def giver():
    """Gives three ints, one of which was asked for."""
    return program((("give", I(5)), ("ask", "x", -9, 9), ("give", L("x")), ("give", I(6))), (("x", "int"),))


class Pens(unittest.TestCase):
    def test_on_an_empty_disk(self):
        disk = Disk([], [])
        pen = Pen(small(), disk)
        self.assertEqual((disk.found(), disk.late, disk.life), (log_bytes(small(), [], []), (), 1))
        self.assertEqual((pen.program, pen.life, pen.moment, pen.steps, pen.told), (small(), 1, begun(small()), 0, 0))
        self.assertIs(pen.disk, disk)

    def test_on_whole_logs(self):
        for made, inputs, weaving in all_runs(10, 20):
            rows, moments = pieces_of(made, inputs, weaving)
            log = log_bytes(made, inputs[:moments[-1].asked], weaving)
            for late in (0, 5, len(log)):
                disk = Disk(log[:len(log) - late], log[len(log) - late:])
                pen = Pen(program=made, disk=disk)
                self.assertEqual((disk.sure, disk.late), (log, ()))
                self.assertEqual((pen.moment, pen.steps, pen.told, pen.life), (moments[-1], len(weaving), 0, 1))

    def test_on_torn_logs(self):
        made = giver()
        log = log_bytes(made, [7], [0] * 5)
        spots = [0]
        for row in pieces_of(made, [7], [0] * 5)[0]:
            spots.append(spots[-1] + len(row))
        moments = run(begun(made), [7], [0] * 5)[0]
        for many in range(len(log) + 1):
            disk = Disk(log[:many // 2], log[many // 2:many])
            pen = Pen(made, disk)
            whole = max(spot for spot in spots if spot <= many)
            steps = max(0, spots.index(whole) - 1)
            self.assertEqual((disk.sure, disk.late, pen.steps, pen.moment), (log[:max(whole, spots[1])], (), steps, moments[steps]))

    def test_told_as_the_last_record_tells(self):
        made = giver()
        rows, _ = pieces_of(made, [7], [0] * 4)
        told = lambda many: record_bytes(5, four_bytes(many))
        for records, many in ((rows, 0), (rows + [told(0)], 0), (rows + [told(1), told(2)], 2), (rows[:2] + [told(1)] + rows[2:], 1), (rows[:2] + [told(1), told(1)], 1)):
            pen = Pen(made, Disk([byte for row in records for byte in row], []))
            self.assertEqual(pen.told, many)

    def test_strange(self):
        log = log_bytes(small(), [7], [0])
        other = program((("give", I(1)),))
        for thing, good in (((9,), 0), (log_bytes(other, [], []), 0), (log + (0, 1), len(log)), (log[:-1] + (255 - log[-1],), HEAD), (log + log, len(log)),
                            (log + record_bytes(2, (0, 0, 0, 0, 0)), len(log))):
            disk = Disk(thing, [])
            with self.assertRaises(BadLog) as caught:
                Pen(small(), disk)
            self.assertEqual(caught.exception.at, good)
            # The pen was taken first; nothing was written.
            self.assertEqual((disk.found(), disk.life), (thing, 1))

    def test_errors(self):
        for thing in (None, 5, ((), (), (), ())):
            with self.assertRaises(BadTree) as caught:
                Pen(thing, None)
            self.assertIsNone(caught.exception.at)
        for thing in (None, 5, (), b""):
            self.assertRaises(BadDisk, Pen, small(), thing)


class Deeds(unittest.TestCase):
    def test_each_deed(self):
        pen = fresh(giver())
        disk = pen.disk
        log = disk.found()

        def wrote(kind, payload):
            nonlocal log
            log += record_bytes(kind, payload)
            self.assertEqual(disk.found(), log)

        start = pen.moment
        self.assertEqual(pen.acts(("step", 0)), (("write", record_bytes(2, (0,))),))
        self.assertEqual(pen.do(("step", 0)), stepped(start, 0, [])[1])
        wrote(2, (0,))
        self.assertEqual((pen.moment, pen.steps, pen.told), (stepped(start, 0, [])[0], 1, 0))
        self.assertEqual(pen.acts(("step", 0, -2)), (("write", record_bytes(2, (0, 254, 255, 255, 255))),))
        self.assertEqual(pen.do(("step", 0, -2)), stepped(stepped(start, 0, [])[0], 0, [-2])[1])
        wrote(2, (0, 254, 255, 255, 255))
        self.assertEqual(disk.late, record_bytes(2, (0,)) + record_bytes(2, (0, 254, 255, 255, 255)))
        self.assertEqual(pen.acts(("picture",)), (("write", record_bytes(3, moment_bytes(pen.moment))),))
        self.assertIsNone(pen.do(("picture",)))
        wrote(3, moment_bytes(pen.moment))
        self.assertEqual(pen.acts(("mark",)), (("write", record_bytes(4, four_bytes(mark_of(moment_bytes(pen.moment))))),))
        self.assertIsNone(pen.do(("mark",)))
        wrote(4, four_bytes(mark_of(moment_bytes(pen.moment))))
        self.assertEqual((pen.acts(("sure",)), pen.do(("sure",))), ((("sure",),), None))
        self.assertEqual((disk.sure, disk.late), (log, ()))
        pen.do(("step", 0))
        wrote(2, (0,))
        # What is told is made sure ahead of it, that it was told behind it.
        self.assertEqual(pen.acts(("tell",)), (("sure",), ("tell", (5, -2)), ("write", record_bytes(5, four_bytes(2)))))
        self.assertEqual(pen.do(("tell",)), (5, -2))
        wrote(5, four_bytes(2))
        self.assertEqual((disk.sure, disk.late, pen.told), (log[:-11], record_bytes(5, four_bytes(2)), 2))
        # Nothing is told twice.
        self.assertEqual((pen.acts(("tell",)), pen.do(("tell",))), ((), ()))
        self.assertEqual(disk.found(), log)
        pen.do(("step", 0))
        self.assertEqual(pen.do(("tell",)), (6,))
        self.assertEqual(pen.told, 3)

    def test_a_step_that_goes_wrong(self):
        for rows in by_words().values():
            for made in rows:
                pen = fresh(made)
                while pen.moment.wrong is None:
                    pen.do(("step", 0))
                self.assertEqual(read_log(made, pen.disk.found())[2], "whole")
                self.assertEqual(logged(made, pen.disk.found())[-1], pen.moment)

    def test_the_log_is_that_of_the_run(self):
        for seed, (made, inputs, weaving) in enumerate(all_runs(25, 25)):
            pen = fresh(made)
            moments, traces = run(begun(made), inputs, weaving)
            done, told = 0, ()
            for deed in deeds_of(made, inputs, weaving, seed):
                acts, before = pen.acts(deed), pen.disk.twin()
                result = pen.do(deed)
                # The acts tell what is done.
                outside = ()
                for act in acts:
                    if act[0] == "write":
                        before.write(before.life, act[1])
                    elif act[0] == "sure":
                        before.make_sure(before.life)
                    else:
                        outside += act[1]
                self.assertEqual((before.sure, before.late), (pen.disk.sure, pen.disk.late))
                if deed[0] == "step":
                    self.assertEqual(result, traces[done])
                    done += 1
                elif deed[0] == "tell":
                    self.assertEqual(result, outside)
                    told += outside
                self.assertEqual((pen.moment, pen.steps, told), (moments[done], done, moments[done].given[:pen.told]))
            steps, good, why = read_log(made, pen.disk.found())
            self.assertEqual(([thread for thread, _ in steps], good, why), (weaving, len(pen.disk.found()), "whole"))
            # The log without the others is that of the run.
            kept = [record_bytes(kind, payload) for kind, payload in records_of(pen.disk.found())[0] if kind < 3]
            self.assertEqual(tuple(byte for row in kept for byte in row), log_bytes(made, inputs[:moments[-1].asked], weaving))

    def test_bad_deeds(self):
        pen = fresh(giver())
        before = state(pen)
        for thing in (None, 5, "sure", (), ("step",), ("step", 1), ("step", -1), ("step", True), ("step", 0, None), ("step", 0, True), ("step", 0, 2 ** 31), ("step", 0, 1, 1),
                      ("picture", 0), ("sures",), ["sure"], (5,), (("sure",),), ("tell", ()), ("Step", 0), ("step", "0")):
            self.assertRaises(BadDeed, pen.acts, thing)
            self.assertRaises(BadDeed, pen.do, thing)
            if thing is not None:
                self.assertRaises(BadDeed, fallen, pen, thing, None, None)
            self.assertRaises(BadDeed, fallen, thing, ("sure",), None, None)
        self.assertEqual(state(pen), before)

    def refuse(self, pen, deed, error, why=None):
        before = state(pen)
        for call in (lambda: pen.acts(deed), lambda: pen.do(deed), lambda: fallen(pen, deed, None, None)):
            with self.assertRaises(error) as caught:
                call()
            if why:
                self.assertEqual(vars(caught.exception), why)
        self.assertEqual(state(pen), before)

    def test_deeds_that_cannot_be_done(self):
        """Each refusal, the first of several; nothing is changed by it, be the pen old or not."""
        for old in (False, True):
            pen = fresh(small())
            if old:
                pen.disk.take_pen()
            self.refuse(pen, ("step", 0), NotNow, {"why": "inputs"})
            self.refuse(pen, ("step", 0, 10), BadInputs)
        pen = fresh(small())
        pen.do(("step", 0, 3))
        self.refuse(pen, ("step", 0, 3), NotNow, {"why": "inputs"})
        pen.do(("step", 0)), pen.do(("step", 0))
        self.refuse(pen, ("step", 0), NotNow, {"why": "ended"})
        self.refuse(pen, ("step", 0, 3), NotNow, {"why": "ended"})
        pen = fresh(tally())
        for thread in (0, 1, 0, 1, 0):
            pen.do(("step", thread))
        self.refuse(pen, ("step", 1), NotNow, {"why": "held"})
        self.refuse(pen, ("step", 1, 0), NotNow, {"why": "held"})
        pen = fresh(by_words()["share"][0])
        pen.do(("step", 0))
        self.refuse(pen, ("step", 0), NotNow, {"why": "wrong"})
        self.refuse(pen, ("step", 0, 0), NotNow, {"why": "wrong"})

    def test_old_pens(self):
        for later in (lambda disk: disk.take_pen(), lambda disk: Pen(giver(), disk), lambda disk: disk.fall(0)):
            pen = fresh(giver())
            pen.do(("step", 0))
            later(pen.disk)
            before = state(pen)
            for deed in (("step", 0, 5), ("picture",), ("mark",), ("sure",), ("tell",)):
                self.assertTrue(pen.acts(deed))
                self.assertRaises(OldPen, pen.do, deed)
                self.assertEqual(state(pen), before)
                self.assertRaises(OldPen, fallen, pen, deed, 0, None)
            self.assertRaises(OldPen, fallen, pen, None, 0, None)
            self.assertRaises(BadNumber, fallen, pen, None, 1, None)

    def test_great_pictures(self):
        """65535 bytes are let, 65536 are not; a byte more is made by a local that is set."""
        made = program((("give", I(1)),), tuple((word, "byte") for word in "bcde"))
        start = begun(made)
        empty = len(moment_bytes(start))
        many, more = divmod(65535 - empty, 4)
        for fits in (True, False):
            values = (0,) * (more + (0 if fits else 1)) + (None,) * (4 - more - (0 if fits else 1))
            frame = start.stacks[0][0]
            stacks = ((frame[:2] + (values,) + frame[3:],),)
            moment = Moment(made, start.lives, start.memory, start.held, stacks, 0, (3,) * many, None)
            self.assertEqual(len(moment_bytes(moment)), 65535 if fits else 65536)
            pen = fresh(made)
            pen.moment = moment
            if fits:
                self.assertEqual(pen.acts(("picture",)), (("write", record_bytes(3, moment_bytes(moment))),))
                self.assertIsNone(pen.do(("picture",)))
            else:
                self.refuse(pen, ("picture",), TooMany, {"most": 65535})
            self.assertIsNone(pen.do(("mark",)))


class Falls(unittest.TestCase):
    def judge(self, pen, deed, told_ahead):
        """Falls in each moment of a deed, with each number of late bytes kept."""
        acts = () if deed is None else pen.acts(deed)
        before = state(pen)
        made = pen.program
        moments = logged(made, pen.disk.found())
        after = moments
        if deed is not None and deed[0] == "step":
            after = moments + [stepped(pen.moment, deed[1], (0,) * pen.moment.asked + deed[2:])[0]]
        for many in range(len(acts) + 1):
            twin, outside = pen.disk.twin(), ()
            for act in acts[:many]:
                if act[0] == "write":
                    twin.write(twin.life, act[1])
                elif act[0] == "sure":
                    twin.make_sure(twin.life)
                else:
                    outside += act[1]
            late = twin.late
            for kept in sorted({0, len(late)} | set(range(0, len(late) + 1, max(1, len(late) // 9)))):
                disk, told = fallen(pen, deed, many, kept)
                self.assertEqual((disk.sure, disk.late, told), (twin.sure + late[:kept], (), outside))
                self.assertEqual(disk.life, pen.disk.life + 1)
                self.found(made, disk, after, pen, told_ahead + len(told), twin.sure)
            for kept in (len(late) + 1, -1, True, None):
                with self.assertRaises(BadNumber) as caught:
                    fallen(pen, deed, many, kept)
                self.assertEqual(caught.exception.part, "kept")
        for many in (len(acts) + 1, -1, True, None):
            with self.assertRaises(BadNumber) as caught:
                fallen(pen, deed, many, None)
            self.assertEqual(caught.exception.part, "many")
        self.assertEqual(state(pen), before)

    def found(self, made, disk, after, pen, told, sure):
        """What a new pen finds."""
        twice = disk.twin()
        new = Pen(made, disk)
        self.assertLessEqual(new.steps, len(after) - 1)
        self.assertEqual(new.moment, after[new.steps])
        # All that was sure, so all that was told, is in it.
        self.assertEqual(disk.sure[:len(sure)], sure)
        self.assertLessEqual(new.told, told)
        self.assertLessEqual(told, len(new.moment.given))
        for kind, payload in records_of(sure)[0]:
            if kind == 5:
                self.assertGreaterEqual(new.told, payload[0] + 256 * payload[1])
        # Opened twice is as good as once, also with a fall between.
        again = Pen(made, twice)
        again = Pen(made, twice)
        self.assertEqual((twice.found(), again.moment, again.steps, again.told), (disk.found(), new.moment, new.steps, new.told))

    def test_each_moment_of_a_fall(self):
        for seed, (made, inputs, weaving) in enumerate(all_runs(12, 12)[-26:] + all_runs(6, 12)[:6]):
            pen = fresh(made)
            told = 0
            for deed in deeds_of(made, inputs, weaving, seed)[:30]:
                if seed % 3 == 0 or deed[0] != "step":
                    self.judge(pen, deed, told)
                result = pen.do(deed)
                told += len(result) if deed[0] == "tell" else 0
            self.judge(pen, None, told)

    def test_an_evening(self):
        """Pens one behind the other, with falls between them: the log is that of one run."""
        for seed, (made, inputs, weaving) in enumerate(all_runs(25, 30)):
            dice = random.Random(seed)
            moments, _ = run(begun(made), inputs, weaving)
            disk, heard = Disk([], []), ()
            pen = Pen(made, disk)
            for _ in range(400):
                if pen.steps == len(weaving):
                    break
                one, other = moments[pen.steps], moments[pen.steps + 1]
                self.assertEqual(pen.moment, one)
                step = ("step", weaving[pen.steps]) + ((inputs[one.asked],) if other.asked > one.asked else ())
                deed = dice.choice([step, step, step, ("sure",), ("tell",), ("mark",)])
                if dice.random() < 0.12:
                    many = dice.randint(0, len(pen.acts(deed)))
                    late = len(disk.late) if many == 0 else 0
                    disk, told = fallen(pen, deed, many, dice.randint(0, late))
                    heard = self.hear(heard, pen.told, told)
                    pen = Pen(made, disk)
                else:
                    told = pen.do(deed)
                    if deed == ("tell",):
                        heard = self.hear(heard, pen.told - len(told), told)
            steps, good, why = read_log(made, disk.found())
            self.assertEqual((good, why), (len(disk.found()), "whole"))
            self.assertEqual([thread for thread, _ in steps], weaving[:len(steps)])
            self.assertEqual(len(steps), len(weaving))
            self.assertEqual(logged(made, disk.found()), moments)
            self.assertEqual(heard, moments[-1].given[:len(heard)])
            # Recording goes on in the same disk, with a fall in the midst of making a pen.
            self.assertEqual(Pen(made, disk).moment, moments[-1])

    def hear(self, heard, at, told):
        """What was told outside: some of it twice, but none in another sequence."""
        self.assertLessEqual(at, len(heard))
        self.assertEqual(heard[at:at + len(told)], told[:len(heard) - at])
        return heard[:at] + told + heard[at + len(told):]

    def test_falls_while_a_pen_is_made(self):
        """The head is written late, then made sure: cut anywhere, it is made again."""
        head = log_bytes(small(), [], [])
        for many in range(HEAD + 1):
            disk = Disk([], head[:many])
            disk.fall(many)
            pen = Pen(small(), disk)
            self.assertEqual((disk.sure, pen.steps), (head, 0))

    def test_two_pens(self):
        made = giver()
        elder = fresh(made)
        elder.do(("step", 0))
        younger = Pen(made, elder.disk)
        # What the elder one had written is there, or not: its fall kept some.
        self.assertEqual(younger.steps, 1)
        self.assertRaises(OldPen, elder.do, ("sure",))
        younger.do(("step", 0, 4))
        self.assertRaises(OldPen, elder.do, ("step", 0, 4))
        self.assertEqual([thread for thread, _ in read_log(made, elder.disk.found())[0]], [0, 0])
        self.assertEqual(read_log(made, elder.disk.found())[2], "whole")
        self.assertEqual((elder.steps, younger.steps), (1, 2))
        for kept in (0, 7, 8):
            lost, _ = fallen(younger, None, 0, min(kept, len(younger.disk.late)))
            self.assertIn(Pen(made, lost).steps, (1, 2))

    def test_errors_in_sequence(self):
        pen = fresh(small())
        self.assertRaises(BadDeed, fallen, None, None, None, None)
        self.assertRaises(BadDeed, fallen, pen, (), None, None)
        self.assertRaises(NotNow, fallen, pen, ("step", 0), None, None)
        self.assertRaises(BadNumber, fallen, pen, ("step", 0, 1), 2, None)
        self.assertEqual(fallen(pen=pen, deed=("step", 0, 1), many=1, kept=12)[1], ())
        self.assertRaises(BadNumber, fallen, pen, ("step", 0, 1), 1, 13)
        self.assertRaises(BadBytes, Disk, None, None)

    def test_without_threads(self):
        pen = fresh(Program(((), (), (), ())))
        self.assertRaises(BadDeed, pen.do, ("step", 0))
        self.assertEqual(pen.do(("tell",)), ())


if __name__ == "__main__":
    unittest.main()
