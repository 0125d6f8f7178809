"""Points 71 and 29: disks, and the texts of the examples."""

import os
import unittest

from firstwrong.disks import Disk, need_disk
from firstwrong.errors import BadBytes, BadDisk, BadNumber, OldPen
from firstwrong.examples import sorter_text, spill_text, tally_text

TALLY = """shared int sum[1]
lock door
function main()
  int had
  int turn
end
body main
  @turn = 0
  while @turn < 3
    take door
    @had = *$sum
    *$sum = @had + 1
    leave door
    @turn = @turn + 1
  end
  give *$sum
end
thread main
thread main"""
SORTER = """function main()
  int spot
  int here
  int many
  int value
  int* row
end
body main
  @many = ask(1, 16)
  @row = make int[@many]
  @spot = 0
  while @spot < @many
    @value = ask(-2147483648, 2147483647)
    @here = @spot
    while 0 < @here and @value < @row[@here - 1]
      @row[@here] = @row[@here - 1]
      @here = @here - 1
    end
    @row[@here] = @value
    @spot = @spot + 1
  end
  @spot = 0
  while @spot < @many
    give @row[@spot]
    @spot = @spot + 1
  end
  away @row
end
thread main"""
SPILL = """function main()
  int spot
  int times
  int* row
end
body main
  @times = ask(0, 9)
  @row = make int[4]
  @spot = 0
  while @spot < @times
    @row[@spot] = @spot
    @spot = @spot + 1
  end
  give @row[3]
  away @row
  @times = ask(0, 1)
  if @times
    give *@row
  end
end
thread main"""


class Examples(unittest.TestCase):
    def test_sign_for_sign(self):
        self.assertEqual(tally_text(), TALLY)
        self.assertEqual(sorter_text(), SORTER)
        self.assertEqual(spill_text(), SPILL)

    def test_as_the_document_has_them(self):
        place = os.path.join(os.path.dirname(os.path.abspath(__file__)), "..", "..", "shared", "DOC.md")
        if not os.path.exists(place):
            self.skipTest("the document is not beside the project")
        with open(place, encoding="utf-8") as file:
            document = file.read()
        for name, text in (("tally", tally_text()), ("sorter", sorter_text()), ("spill", spill_text())):
            self.assertIn(f"\n{name}_text():\n```\n{text}\n```\n", document)


class Disks(unittest.TestCase):
    def state(self, disk):
        return disk.sure, disk.late, disk.life

    def test_writing(self):
        sure, late = [1, 2], [3]
        disk = Disk(sure, late)
        sure.append(9)
        late.append(9)
        self.assertEqual(self.state(disk), ((1, 2), (3,), 0))
        self.assertEqual(disk.take_pen(), 1)
        row = [4, 255]
        self.assertIsNone(disk.write(1, row))
        row.append(5)
        self.assertEqual(self.state(disk), ((1, 2), (3, 4, 255), 1))
        self.assertEqual(disk.found(), (1, 2, 3, 4, 255))
        self.assertIsNone(disk.write(life=1, thing=()))
        self.assertIsNone(disk.make_sure(1))
        self.assertEqual(self.state(disk), ((1, 2, 3, 4, 255), (), 1))
        self.assertIsNone(disk.write(1, (7,)))
        self.assertEqual(self.state(disk), ((1, 2, 3, 4, 255), (7,), 1))
        self.assertEqual(self.state(Disk(sure=(), late=())), ((), (), 0))

    def test_cut(self):
        for many in range(6):
            disk = Disk([1, 2, 3], [4, 5])
            self.assertIsNone(disk.cut(0, many))
            self.assertEqual(self.state(disk), ((1, 2, 3)[:many], (4, 5)[:max(0, many - 3)], 0))
            self.assertEqual(disk.found(), (1, 2, 3, 4, 5)[:many])
        disk = Disk([1, 2, 3], [4, 5])
        for many in (-1, 6, True, None, 1.0, "1"):
            with self.assertRaises(BadNumber) as caught:
                disk.cut(life=0, many=many)
            self.assertEqual(caught.exception.part, "many")
        self.assertEqual(self.state(disk), ((1, 2, 3), (4, 5), 0))

    def test_fall(self):
        for kept in range(3):
            disk = Disk([1], [2, 3])
            disk.take_pen()
            self.assertIsNone(disk.fall(kept))
            self.assertEqual(self.state(disk), ((1, 2, 3)[:1 + kept], (), 2))
            with self.assertRaises(OldPen):
                disk.write(1, [1])
        disk = Disk([1], [2, 3])
        for kept in (-1, 3, True, None, "1"):
            with self.assertRaises(BadNumber) as caught:
                disk.fall(kept=kept)
            self.assertEqual(caught.exception.part, "kept")
        self.assertEqual(self.state(disk), ((1,), (2, 3), 0))

    def test_old_pens(self):
        disk = Disk([1], [2])
        first, second = disk.take_pen(), disk.take_pen()
        self.assertEqual((first, second), (1, 2))
        for life in (first, 0, 3, None, "2", 2.0, True, [2], (2,)):
            for call in (lambda: disk.write(life, None), lambda: disk.make_sure(life), lambda: disk.cut(life, -1)):
                with self.assertRaises(OldPen):
                    call()
        disk.write(second, [3])
        self.assertEqual(self.state(disk), ((1,), (2, 3), 2))
        one = Disk([], [])
        one.take_pen()
        with self.assertRaises(OldPen):
            one.write(True, [1])
        one.write(1, [1])

    def test_rows(self):
        for thing in (None, 1, "a", b"a", {}, [256], [-1], [True], [None], [[1]], [1.0]):
            for call in (lambda: Disk(thing, []), lambda: Disk([], thing), lambda: Disk(thing, None),
                         lambda: Disk([], []).write(0, thing)):
                with self.assertRaises(BadBytes) as caught:
                    call()
                self.assertIsNone(caught.exception.at)
        disk = Disk([], [1])
        with self.assertRaises(BadBytes):
            disk.write(0, [2, 256])
        self.assertEqual(self.state(disk), ((), (1,), 0))

    def test_twins(self):
        disk = Disk([1], [2])
        disk.take_pen()
        twin = disk.twin()
        self.assertIsInstance(twin, Disk)
        self.assertEqual(self.state(twin), ((1,), (2,), 1))
        twin.write(1, [3])
        twin.fall(2)
        self.assertEqual(self.state(disk), ((1,), (2,), 1))
        disk.make_sure(1)
        self.assertEqual(self.state(twin), ((1, 2, 3), (), 2))

    def test_no_disks(self):
        need_disk(Disk([], []))
        for thing in (None, [], ((), ())):
            with self.assertRaises(BadDisk):
                need_disk(thing)


if __name__ == "__main__":
    unittest.main()
