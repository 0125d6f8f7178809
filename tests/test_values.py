"""Points 3, 5, 10 and 11: errors, sorts, values, rows."""

import unittest

from firstwrong import errors
from firstwrong.errors import BadBytes, BadNumber, WrongError
from firstwrong.rows import four_bytes, mark_of
from firstwrong.values import is_sort, is_value

WITH = {"BadBytes": ["at"], "BadCode": ["at"], "BadLayout": ["part"], "BadLine": ["number"], "BadLog": ["at"],
        "BadMoment": ["part"], "BadNames": ["key"], "BadNumber": ["part"], "BadPast": ["part"],
        "BadText": ["line", "reason"], "BadTree": ["at"], "Lost": ["word"], "NotNow": ["why"], "TooMany": ["most"]}
WITHOUT = """BadCell BadChart BadCheck BadChoices BadCondition BadDeed BadDisk BadEdit BadEntry BadFilm BadFlat BadInputs
BadLedger BadLook BadPlan BadSession BadSight BadStep BadStop BadStory BadTerm BadTraces BadWeaving OldPen""".split()


class Odd:
    """Equal to all, and not to be put into a set."""

    __hash__ = None

    def __eq__(self, other):
        return True


ODD = (None, True, 1.0, "x", b"x", [], {}, (), Odd(), object(), ("to",), (1, 2, 3, 4))


class Errors(unittest.TestCase):
    def test_all_errors_with_their_attributes(self):
        self.assertIs(WrongError.__bases__[0], ValueError)
        for name, attributes in WITH.items():
            kind = getattr(errors, name)
            self.assertEqual(kind.__bases__, (WrongError,))
            for value in ("x", None, (1, 2), [3], object()):
                error = kind(*[value] * len(attributes))
                for attribute in attributes:
                    self.assertIs(getattr(error, attribute), value)
            kind(**{attribute: 1 for attribute in attributes})
        for name in WITHOUT:
            kind = getattr(errors, name)
            self.assertEqual(kind.__bases__, (WrongError,))
            self.assertEqual(str(kind("so it is")), "so it is")


class Sorts(unittest.TestCase):
    def test_is_sort(self):
        for thing in ("int", "byte", ("to", "int"), ("to", "byte"), ("to", ("to", "int")), ("to", ("to", "byte"))):
            self.assertIs(is_sort(thing), True)
        for thing in ODD + ("to", "none", ["to", "int"], ("to", "int", "int"), ("to", ["to", "int"]), ("at", "int"),
                            ("to", ("to", ("to", "int"))), ("to", None), (Odd(), "int"), ("to", Odd())):
            self.assertIs(is_sort(thing), False, thing)

    def test_ends_of_ints_and_bytes(self):
        for low, high, sort in ((-(2 ** 31), 2 ** 31 - 1, "int"), (0, 255, "byte")):
            for thing in (low, high, 0, 1, 77):
                self.assertIs(is_value(sort, thing), True)
            for thing in (low - 1, high + 1, None, True, False, "1", 1.0, (0, 0, 0)):
                self.assertIs(is_value(sort, thing), False)

    def test_pointers(self):
        for sort in (("to", "int"), ("to", ("to", "byte"))):
            for thing in ((0, 0, 0), (0, 1, 0), (31, 1, 0), (0, 2 ** 30, 0), (0, 1, 16), (31, 2 ** 30, 16)):
                self.assertIs(is_value(sort, thing), True)
            for thing in ODD + ((32, 1, 0), (-1, 1, 0), (0, 0, 1), (1, 0, 0), (0, 2 ** 30 + 1, 0), (0, 1, 17),
                                (0, 1, -1), [0, 1, 0], (0, True, 0), (False, 1, 0), (0, 1, False), (False, 0, 0),
                                (0, 1), (0, 1, 0, 0), 0):
                self.assertIs(is_value(sort, thing), False, thing)

    def test_wrong_sorts(self):
        for sort in ODD + (["to", "int"], "none", ("to", ("to", ("to", "int")))):
            with self.assertRaises(BadNumber) as caught:
                is_value(sort, 1)
            self.assertEqual(caught.exception.part, "sort")
        self.assertIs(is_value(thing=3, sort="int"), True)


class Rows(unittest.TestCase):
    def test_four_bytes(self):
        self.assertEqual(four_bytes(0), (0, 0, 0, 0))
        self.assertEqual(four_bytes(number=0x01020304), (4, 3, 2, 1))
        self.assertEqual(four_bytes(2 ** 32 - 1), (255, 255, 255, 255))
        for number in (-1, 2 ** 32, True, False, None, "1", 1.0, (1,)):
            with self.assertRaises(BadNumber) as caught:
                four_bytes(number)
            self.assertEqual(caught.exception.part, "number")

    def test_mark_of(self):
        self.assertEqual(mark_of([]), 2166136261)
        self.assertEqual(mark_of(()), 2166136261)
        # The known marks of "a" and "foobar" by this rule (FNV-1a).
        self.assertEqual(mark_of([97]), 0xE40C292C)
        self.assertEqual(mark_of(thing=tuple(b"foobar")), 0xBF9CF968)
        row = [1, 2, 255, 0]
        by_hand = 2166136261
        for byte in row:
            by_hand = ((by_hand ^ byte) * 16777619) % 2 ** 32
        self.assertEqual(mark_of(row), by_hand)
        self.assertEqual(row, [1, 2, 255, 0])
        for thing in (None, 1, "ab", b"ab", {}, {1: 2}, [256], [-1], [True], [1, False], [None], [[1]], ["a"], [1.0]):
            with self.assertRaises(BadBytes) as caught:
                mark_of(thing)
            self.assertIsNone(caught.exception.at)


if __name__ == "__main__":
    unittest.main()
