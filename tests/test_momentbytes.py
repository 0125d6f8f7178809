"""Point 56: moments as rows of bytes."""

import random
import unittest

from made import I, L, all_runs, program, sorter
from firstwrong.errors import BadBytes, BadMoment, BadTree, TooMany
from firstwrong.momentbytes import moment_bytes, moment_of_bytes
from firstwrong.moments import Moment, begun
from firstwrong.steps import run
from firstwrong.trees import Program

P = ("to", "int")
BODY = (("let", "x", I(1)), ("return",))
INNER = (("return", L("c")),)
TREE = ((("s", "int", 2),), ("k",),
        (("f", (), (("x", "int"), ("p", P)), (("m", "byte", 1),), "none", BODY),
         ("g", (("c", P),), (("b", "byte"),), (), P, INNER)), ("f", "f"))


def four(number):
    return [(number >> shift) % 256 for shift in (0, 8, 16, 24)]


class MomentBytes(unittest.TestCase):
    made = Program(TREE)

    def moment(self, **changes):
        lives = [1, 1, 2, 5] + [0] * 28
        memory = {0: ("shared", "int", (-2, None)), 1: ("local", "byte", (7,)), 3: ("made", P, ((0, 1, 1), None))}
        stacks = (((0, BODY[1:], (None, (3, 3, 0)), ((1, 1),), ""), (1, INNER, ((0, 0, 0), 255), (), "p")), ())
        parts = {"lives": lives, "memory": memory, "held": (1,), "stacks": stacks, "asked": 258, "given": (1, -1),
                 "wrong": (1, "null")}
        parts.update(changes)
        return Moment(self.made, **parts)

    # The items of this moment, one by one.
    items = ([four(1), four(1), four(2), four(5)] + [four(0)] * 28
             + [[0], [1], [254, 255, 255, 255], [0]]
             + [[1], [1], [1], [1], [7]]
             + [[2], [2], [2], [1], [0, 1, 0, 0, 0, 1], [0]]
             + [[2]]
             + [[2], [0], [1, 0], [0], [1], [3, 3, 0, 0, 0, 0], [1], four(1), [0]]
             + [[1], [0, 0], [1], [0] * 6, [1], [255], [3]]
             + [[0]]
             + [four(258), four(2), four(1), [255] * 4, [13]])

    def row(self, items=None):
        return [byte for item in (items or self.items) for byte in item]

    def at(self, row, made=None):
        with self.assertRaises(BadBytes) as caught:
            moment_of_bytes(made or self.made, row)
        return caught.exception.at

    def test_by_hand(self):
        # Words of params and locals: b, c, p, x; the target p is the third one.
        self.assertEqual(moment_bytes(self.moment()), tuple(self.row()))
        self.assertEqual(moment_of_bytes(self.made, self.row()), self.moment())
        self.assertEqual(moment_of_bytes(program=self.made, thing=tuple(self.row())), self.moment())
        empty = Program(((), (), (), ()))
        self.assertEqual(moment_bytes(moment=begun(empty)), (0,) * 137)
        for number, word in enumerate(("unset", "null", "gone", "beyond", "unlike", "kind", "great", "share", "away", "deep", "lock")):
            self.assertEqual(moment_bytes(self.moment(wrong=(0, word)))[-1], 1 + number)
            self.assertEqual(moment_bytes(self.moment(wrong=(1, word)))[-1], 12 + number)
        self.assertEqual(moment_bytes(self.moment(wrong=None))[-1], 0)

    def test_each_cut(self):
        row, starts, place = self.row(), [], 0
        for item in self.items:
            starts += [place] * len(item)
            place += len(item)
        for cut in range(len(row)):
            self.assertEqual(self.at(row[:cut]), starts[cut])
        self.assertEqual(self.at(row + [0]), len(row))
        self.assertEqual(self.at(row + row), len(row))

    def test_each_item_beyond(self):
        """The least number above what an item may be, or below it; the last one that may be is let."""
        places = [sum(len(item) for item in self.items[:number]) for number in range(len(self.items))]

        def put(number, item):
            return self.row(self.items[:number] + [list(item)] + self.items[number + 1:])

        # 0 to 31 lives, 32 to 46 blocks, 47 the lock, 48 to 64 stacks, then asked, given, wrong.
        bad = [(0, four(2 ** 31 - 1)), (31, four(2 ** 32 - 1)), (32, [1]), (32, [2]), (33, [2]), (36, [0]), (36, [3]), (37, [4]),
               (38, [0]), (38, [17]), (39, [2]), (41, [0]), (41, [3]), (42, [4]), (43, [0]), (43, [17]), (44, [2]),
               (45, [32, 1, 0, 0, 0, 0]), (45, [0, 0, 0, 0, 0, 1]), (45, [0, 1, 0, 0, 64, 0]), (45, [0, 1, 0, 0, 0, 17]),
               (45, [1, 0, 0, 0, 0, 0]), (47, [3]), (48, [13]), (49, [2]), (50, [2, 0]), (50, [3, 0]), (50, [0, 1]), (51, [2]),
               (53, [32, 3, 0, 0, 0, 0]), (54, [32]), (55, four(0)), (55, four(2 ** 30 + 1)), (56, [5]), (57, [2]), (58, [1, 0]),
               (63, [5]), (64, [13]), (69, [23]), (69, [255])]
        for number, item in bad:
            self.assertEqual(self.at(put(number, item)), places[number], (number, item))
        for number, item, change in ((69, [22], {"wrong": (1, "lock")}), (65, [255] * 4, {"asked": 2 ** 32 - 1}),
                                     (67, four(2 ** 31 - 1), {"given": (2 ** 31 - 1, -1)}), (67, four(2 ** 31), {"given": (-(2 ** 31), -1)}),
                                     (47, [0], {"held": (None,)}), (31, four(2 ** 31 - 2), {"lives": [1, 1, 2, 5] + [0] * 27 + [2 ** 31 - 2]})):
            self.assertEqual(moment_of_bytes(self.made, put(number, item)), self.moment(**change))

    def test_items_fine_but_no_moment(self):
        def put(number, *items):
            return self.row(self.items[:number] + [list(item) for item in items] + self.items[number + len(items):])

        # A shared slot or a slot with another life; a block named that is gone, shared, made, or of another kind; a local
        # block that is none; targets of another sort, or of the lowest frame.
        for row in (put(0, four(3)), put(1, four(3)), put(55, four(2)), put(54, [2]), put(54, [0]), put(54, [3], four(3)),
                    put(36, [2]), put(56, [1]), put(63, [4]), put(63, [1]),
                    self.row(self.items[:37] + [[0], [1], [1], four(7)] + self.items[41:])):
            self.assertEqual(self.at(row), len(row))
        # No block in the shared one's slot: the next one stands behind the shared ones.
        row = self.row([four(2)] + self.items[1:32] + self.items[36:])
        self.assertEqual(self.at(row), len(row))
        self.assertEqual(self.at(self.row([four(2)] + self.items[1:])), 128)

    def test_heart(self):
        rows = {}
        for made, inputs, weaving in all_runs(50, first=30):
            for moment in run(begun(made), inputs, weaving)[0]:
                row = moment_bytes(moment)
                self.assertIsInstance(row, tuple)
                self.assertEqual(moment_of_bytes(made, list(row)), moment)
                for other in rows.setdefault(row, []):
                    if other.program == made:
                        self.assertEqual(other, moment)
                rows[row].append(moment)

    def test_each_cut_and_changes_of_runs(self):
        """A row tells at most one moment, and at says where the first item is wrong."""
        dice = random.Random(8)
        for made, inputs, weaving in all_runs(12, first=10):
            moment = run(begun(made), inputs, weaving)[0][-1]
            row = list(moment_bytes(moment))
            last = -1
            for cut in range(len(row)):
                at = self.at(row[:cut], made)
                self.assertTrue(last <= at <= cut < at + 6)
                last = at
            for _ in range(150):
                place = dice.randrange(len(row))
                other = row[:place] + [dice.choice((0, 1, 2, 17, 255, dice.randrange(256)))] + row[place + 1:]
                try:
                    found = moment_of_bytes(made, other)
                except BadBytes as error:
                    self.assertIsInstance(error.at, int)
                    self.assertTrue(place - 5 <= error.at <= len(other))
                    continue
                self.assertEqual(list(moment_bytes(found)), other)

    def test_todos_by_their_place(self):
        made = sorter()
        moments, _ = run(begun(made), [2, 9, 8], [0] * 20)
        places = [made.todos[0].index(moment.stacks[0][0][1]) for moment in moments]
        self.assertGreater(max(places), 8)
        for moment in moments:
            self.assertEqual(moment_of_bytes(made, moment_bytes(moment)), moment)

    def test_too_many(self):
        self.assertEqual(moment_bytes(self.moment(asked=2 ** 32 - 1))[-17:-13], (255,) * 4)
        with self.assertRaises(TooMany) as caught:
            moment_bytes(self.moment(asked=2 ** 32))
        self.assertEqual(caught.exception.most, 2 ** 32 - 1)

    def test_refusals(self):
        for thing in (None, 1, self.made):
            with self.assertRaises(BadMoment) as caught:
                moment_bytes(thing)
            self.assertIsNone(caught.exception.part)
        for thing in (None, self.moment(), TREE):
            with self.assertRaises(BadTree) as caught:
                moment_of_bytes(thing, None)
            self.assertIsNone(caught.exception.at)
        for thing in (None, 1, "a", b"abc", {}, [256], [-1], [True], [None], [1.0], [[1]], self.row()[:-1] + [False]):
            self.assertIsNone(self.at(thing))
        self.assertEqual(self.at([]), 0)
        row = self.row()
        moment_of_bytes(self.made, row)
        self.assertEqual(row, self.row())


if __name__ == "__main__":
    unittest.main()
