"""Point 70: records; with disks, point 71."""

import random
import unittest

from firstwrong.disks import Disk
from firstwrong.errors import BadBytes, BadNumber, OldPen, TooMany
from firstwrong.records import record_bytes, records_of
from firstwrong.rows import four_bytes, mark_of


def told(rows):
    return tuple(byte for kind, payload in rows for byte in record_bytes(kind, payload))


ROWS = [(1, (7, 8, 9, 10)), (2, (0,)), (3, ()), (5, tuple(range(20))), (4, (255,) * 9), (2, (1, 2, 3, 4, 5))]


class RecordBytes(unittest.TestCase):
    def test_form(self):
        body = (2, 3, 0, 9, 8, 7)
        self.assertEqual(record_bytes(2, [9, 8, 7]), body + four_bytes(mark_of(body)))
        self.assertEqual(record_bytes(2, (9, 8, 7)), body + four_bytes(mark_of(body)))
        self.assertIsInstance(record_bytes(2, [9]), tuple)
        self.assertEqual(record_bytes(kind=1, payload=[]), (1, 0, 0) + four_bytes(mark_of((1, 0, 0))))

    def test_kinds(self):
        for kind in (1, 2, 3, 4, 5):
            self.assertEqual(record_bytes(kind, [])[0], kind)
        for kind in (0, 6, -1, True, None, "1", 1.0, (1,)):
            with self.assertRaises(BadNumber) as caught:
                record_bytes(kind, [256])
            self.assertEqual(caught.exception.part, "kind")

    def test_payloads(self):
        for thing in (None, 5, "ab", [256], [-1], [True], (1, None), {1: 2}, b"a"):
            with self.assertRaises(BadBytes) as caught:
                record_bytes(1, thing)
            self.assertIsNone(caught.exception.at)

    def test_longest(self):
        long = record_bytes(3, [1] * 65535)
        self.assertEqual(long[:4], (3, 255, 255, 1))
        self.assertEqual(len(long), 65535 + 7)
        self.assertEqual(records_of(long), ([(3, (1,) * 65535)], len(long), "whole"))
        self.assertEqual(records_of(long[:-1]), ([], 0, "torn"))
        with self.assertRaises(TooMany) as caught:
            record_bytes(3, [1] * 65536)
        self.assertEqual(caught.exception.most, 65535)
        with self.assertRaises(BadBytes):
            record_bytes(3, [1] * 65536 + [300])
        with self.assertRaises(BadNumber):
            record_bytes(0, [1] * 65536)

    def test_256_bytes(self):
        self.assertEqual(record_bytes(1, [4] * 256)[:3], (1, 0, 1))
        self.assertEqual(records_of(record_bytes(1, [4] * 256))[0], [(1, (4,) * 256)])


class RecordsOf(unittest.TestCase):
    def test_wrong_things(self):
        for thing in (None, 5, "ab", [256], [-1], [True], {}):
            with self.assertRaises(BadBytes) as caught:
                records_of(thing)
            self.assertIsNone(caught.exception.at)

    def test_cut_at_every_byte(self):
        row = told(ROWS)
        ends = [len(told(ROWS[:many])) for many in range(len(ROWS) + 1)]
        for many in range(len(row) + 1):
            whole = max(number for number, end in enumerate(ends) if end <= many)
            why = "whole" if many in ends else "torn"
            self.assertEqual(records_of(row[:many]), (ROWS[:whole], ends[whole], why))
            self.assertEqual(records_of(list(row[:many])), (ROWS[:whole], ends[whole], why))

    def test_kinds_of_what_is_told(self):
        records, good, why = records_of(told(ROWS))
        self.assertIsInstance(records, list)
        self.assertTrue(all(isinstance(pair, tuple) and isinstance(pair[1], tuple) for pair in records))
        self.assertEqual((good, why), (len(told(ROWS)), "whole"))
        self.assertEqual(records_of([]), ([], 0, "whole"))

    def torn(self, rest):
        """Whether bytes are a proper beginning of some record's: tried by what may follow."""
        if not 1 <= rest[0] <= 5:
            return False
        if len(rest) < 3:
            return True
        size = rest[1] + 256 * rest[2]
        payload = (tuple(rest[3:3 + size]) + (0,) * size)[:size]
        record = record_bytes(rest[0], payload)
        return len(rest) < len(record) and record[:len(rest)] == tuple(rest)

    def test_bytes_changed_gone_and_added(self):
        dice = random.Random(1)
        whole = told(ROWS[:4])
        for _ in range(1500):
            row = list(whole)
            at = dice.randrange(len(row))
            deed = dice.choice(("changed", "gone", "added"))
            if deed == "changed":
                row[at] = (row[at] + dice.randrange(1, 256)) % 256
            elif deed == "gone":
                del row[at]
            else:
                row.insert(at, dice.randrange(256))
            records, good, why = records_of(row)
            self.assertEqual(tuple(row[:good]), told(records))
            rest = row[good:]
            self.assertEqual(why, "whole" if rest == [] else "torn" if self.torn(rest) else "strange")
            size = 3 + rest[1] + 256 * rest[2] + 4 if len(rest) > 2 else 0
            if rest and 1 <= rest[0] <= 5 and 0 < size <= len(rest):
                self.assertNotEqual(tuple(rest[:size]), record_bytes(rest[0], rest[3:size - 4]))

    def test_why_by_hand(self):
        record = record_bytes(2, [5])
        self.assertEqual(records_of((0,)), ([], 0, "strange"))
        # No record has another kind, be the mark as it may.
        for kind in (0, 6):
            body = (kind, 1, 0, 9)
            self.assertEqual(records_of(body + four_bytes(mark_of(body))), ([], 0, "strange"))
        self.assertEqual(records_of((6,)), ([], 0, "strange"))
        self.assertEqual(records_of((5,)), ([], 0, "torn"))
        self.assertEqual(records_of((2, 255, 255, 1)), ([], 0, "torn"))
        wrong = record[:-1] + ((record[-1] + 1) % 256,)
        self.assertEqual(records_of(wrong), ([], 0, "strange"))
        self.assertEqual(records_of(record + wrong[:5]), ([(2, (5,))], 8, "torn" if wrong[4] == record[4] else "strange"))
        early = record[:4] + ((record[4] + 1) % 256,)
        self.assertEqual(records_of(early), ([], 0, "strange"))
        self.assertEqual(records_of(record + (9,)), ([(2, (5,))], 8, "strange"))

    def test_nothing_is_changed(self):
        row, payload = list(told(ROWS)), [1, 2]
        kept = list(row)
        records_of(row)
        record_bytes(1, payload)
        self.assertEqual((row, payload), (kept, [1, 2]))


class RecordsOnDisks(unittest.TestCase):
    """Point 71: what a disk that fell has of records."""

    def test_falls_that_keep_any_number(self):
        for many in range(len(told(ROWS[2:])) + 1):
            disk = Disk([], [])
            pen = disk.take_pen()
            disk.write(pen, told(ROWS[:2]))
            disk.make_sure(pen)
            disk.write(pen, told(ROWS[2:]))
            twin = disk.twin()
            disk.fall(many)
            records, good, why = records_of(disk.found())
            self.assertEqual(records, ROWS[:len(records)])
            self.assertGreaterEqual(len(records), 2)
            self.assertEqual(why, "whole" if good == len(told(ROWS[:2])) + many else "torn")
            self.assertEqual(twin.found(), told(ROWS))
            with self.assertRaises(OldPen):
                disk.write(pen, [1])
            new = disk.take_pen()
            disk.cut(new, good)
            self.assertEqual(records_of(disk.found()), (records, good, "whole"))
            twin.write(pen, [0])

    def test_pens_old_and_new(self):
        disk = Disk([], [])
        old = disk.take_pen()
        new = disk.take_pen()
        disk.write(new, record_bytes(1, [1]))
        for call in (lambda: disk.write(old, [1]), lambda: disk.make_sure(old), lambda: disk.cut(old, 0)):
            self.assertRaises(OldPen, call)
        self.assertEqual(records_of(disk.found())[2], "whole")


if __name__ == "__main__":
    unittest.main()
