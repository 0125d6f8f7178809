"""Point 63: the weavings that keep a ledger, counted and gone through, against the whole ascending list."""

import unittest
from math import comb

from wovens import keeping, ledgers, shuffled
from firstwrong.counting import how_many, least_weaving, next_weaving, place_of, weaving_at
from firstwrong.errors import BadLedger, BadNumber, BadWeaving, TooMany
from firstwrong.ledgers import least_ledger
from test_ledgers import NO_LEDGERS
from test_weavings import EXAMPLE, NO_WEAVINGS

WIDE = ((10, 1999, 0, 0), ())
ONE = ((1, 1, 0, 0), (((0, 0), (1, 0)),))


class Counting(unittest.TestCase):
    def test_example_by_hand(self):
        weaving, traces = EXAMPLE
        ledger = least_ledger(weaving, traces)
        self.assertEqual((how_many(ledger), least_weaving(ledger), next_weaving(ledger, weaving)), (1, (0, 1, 0), None))
        self.assertEqual(how_many(((2, 1, 0, 0), ())), 3)

    def test_against_the_whole_list(self):
        for ledger in ledgers(150):
            rows = keeping(ledger)
            self.assertEqual(rows, sorted(rows))
            self.assertEqual(how_many(ledger), len(rows))
            self.assertEqual(least_weaving(ledger), rows[0])
            for place in {0, 1, 2, len(rows) // 3, len(rows) // 2, len(rows) - 2, len(rows) - 1} & set(range(len(rows))):
                self.assertEqual(weaving_at(ledger, place), rows[place])
                self.assertEqual(place_of(ledger, list(rows[place])), place)
                self.assertEqual(next_weaving(ledger, list(rows[place])), rows[place + 1] if place + 1 < len(rows) else None)
            for number in (len(rows), -1, True, None, "0"):
                with self.assertRaises(BadNumber) as caught:
                    weaving_at(ledger, number)
                self.assertEqual(caught.exception.part, "number")

    def test_one_behind_the_other(self):
        for ledger in ledgers(40, 6):
            rows, weaving = [], least_weaving(ledger)
            while weaving is not None:
                rows.append(weaving)
                weaving = next_weaving(ledger, weaving)
            self.assertEqual(rows, keeping(ledger))

    def test_empty(self):
        empty = ((0, 0, 0, 0), ())
        self.assertEqual((how_many(empty), least_weaving(empty), next_weaving(empty, []), weaving_at(empty, 0), place_of(empty, ())),
                         (1, (), None, (), 0))

    def test_great(self):
        """Products of 20000 and a little more."""
        for ledger, many in ((((2000, 0, 0, 0), ()), 1), (((1999, 0, 9, 0), ()), comb(2008, 9)), (((1, 1, 1, 1999), ()), 2002 * 2001 * 2000)):
            self.assertEqual(how_many(ledger), many)
            last = weaving_at(ledger, many - 1)
            self.assertEqual((place_of(ledger, last), next_weaving(ledger, last)), (many - 1, None))
            self.assertEqual(least_weaving(ledger), tuple(sorted(last)))
        for ledger in (((2000, 9, 0, 0), ()), ((2000, 2000, 2000, 2000), ()), ((2, 2, 1, 2000), (((0, 0), (3, 0)),)), ((10, 0, 0, 1818), ())):
            weaving = sorted(shuffled(ledger[0], 0))
            for call in (lambda: how_many(ledger), lambda: least_weaving(ledger), lambda: next_weaving(ledger, weaving),
                         lambda: weaving_at(ledger, None), lambda: weaving_at(ledger, 0), lambda: place_of(ledger, weaving)):
                with self.assertRaises(TooMany) as caught:
                    call()
                self.assertEqual(caught.exception.most, 20000)
        # 11 * 1818 is 19998, 11 * 1819 is 20009.
        self.assertEqual(how_many(((10, 0, 0, 1817), ())), comb(1827, 10))

    def test_errors(self):
        for thing in NO_LEDGERS:
            for call in (how_many, least_weaving, lambda l: next_weaving(l, None), lambda l: weaving_at(l, None), lambda l: place_of(l, None)):
                self.assertRaises(BadLedger, call, thing)
        for call in (next_weaving, place_of):
            for thing in NO_WEAVINGS + ([], [0], [1, 0], [0, 1, 0], [0, 0], [0, True]):
                self.assertRaises(BadWeaving, call, ONE, thing)
                # Ahead of TooMany.
                self.assertRaises(BadWeaving, call, WIDE, thing)
        self.assertEqual(place_of(ledger=ONE, weaving=(0, 1)), 0)
        self.assertEqual(weaving_at(ledger=ONE, number=0), (0, 1))


if __name__ == "__main__":
    unittest.main()
