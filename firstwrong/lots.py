"""Lots: the traits that a value may have, and what expressions make of them.

A lot is a dict. Of numbers BAND leads to a number that has a bit for each of
their bands; of pointers NULL leads to 1, and each (site, many, firm) to a number
that has a bit for each offset; UNSET leads to 1. Sites and bands are told by
their places among all. What is not there does not stand in the dict.
"""

from firstwrong.bodies import LEAVES, sort_made
from firstwrong.traits import bands_of, many_cells, sites_of

BAND = "band"
NULL = "null"
UNSET = "unset"
MOST_MOVED = 16


def join(lot, other):
    """Adds the traits of another lot; whether there were new ones."""
    fresh = False
    for key in other:
        bits = lot.get(key, 0)
        if bits | other[key] != bits:
            lot[key] = bits | other[key]
            fresh = True
    return fresh


def has_all(lot, other):
    """Whether a lot has all traits of another one."""
    return all([lot.get(key, 0) & other[key] == other[key] for key in other])


def places_in(lot):
    """The triples (site, many, firm) of a lot's places."""
    return [key for key in lot if isinstance(key, tuple)]


def inside(many):
    """The bits of the offsets at which a block of so many cells has one."""
    return (1 << many) - 1


class Bands:
    """The bands of a code; several of them are a number with a bit for each."""

    def __init__(self, rows):
        self.rows = rows
        self.nought = self.within(0, 0)
        self.one = self.within(1, 1)

    def place_of_band(self, number):
        """The place of the band that has an int."""
        low = 0
        high = len(self.rows) - 1
        while low < high:
            middle = (low + high) // 2
            if self.rows[middle][1] < number:
                low = middle + 1
            else:
                high = middle
        return low

    def within(self, low, high):
        """The bands that have a number from low to high."""
        low = max(low, self.rows[0][0])
        high = min(high, self.rows[-1][1])
        if low > high:
            return 0
        first = self.place_of_band(low)
        return ((1 << (self.place_of_band(high) - first + 1)) - 1) << first

    def bytes_within(self, low, high):
        """The bands that have a number from low to high, modulo 256."""
        if high - low >= 255:
            return self.within(0, 255)
        first = low & 255
        last = high & 255
        if first <= last:
            return self.within(first, last)
        return self.within(first, 255) | self.within(0, last)

    def of_sort(self, sort, low, high):
        """The lot of the bands of a range."""
        bits = self.bytes_within(low, high) if sort == "byte" else self.within(low, high)
        return {BAND: bits} if bits != 0 else {}

    def span(self, bits):
        """The least and the greatest number of some bands, of which there is one."""
        return (self.rows[(bits & -bits).bit_length() - 1][0], self.rows[bits.bit_length() - 1][1])

    def truth(self, may_hold, may_fail):
        """The lot of a test."""
        bits = (self.one if may_hold else 0) | (self.nought if may_fail else 0)
        return {BAND: bits} if bits != 0 else {}


class Grounds:
    """What a code's lots are made of: its bands, and its sites with their sorts and numbers of cells."""

    def __init__(self, code):
        self.code = code
        self.names = code.names
        self.bands = Bands(bands_of(code))
        pairs = sites_of(code)
        self.sites = tuple([site for site, _ in pairs])
        self.sorts = tuple([sort for _, sort in pairs])
        self.cells = tuple([many_cells(code, site) for site in self.sites])
        self.numbers = {site: number for number, site in enumerate(self.sites)}

    def place_at(self, site, firm):
        """The lot of the place at the first cell of a site whose number of cells is told."""
        number = self.numbers[site]
        return {(number, self.cells[number][0], firm): 1}

    def kind_of(self, number):
        """The word of a site: how its blocks are there."""
        return self.sites[number][0]


class Worker:
    """Works out the lots of a function's expressions.

    owner is the function's number; guess has the lot of each param and local, cells that
    of the cells of each site.
    """

    def __init__(self, grounds, function, guess, cells):
        self.grounds = grounds
        self.bands = grounds.bands
        self.owner = function
        self.guess = guess
        self.cells = cells

    def with_guess(self, guess):
        """The same with another guess."""
        return Worker(self.grounds, self.owner, guess, self.cells)

    def lot_of(self, expression):
        """The lot of an expression."""
        return self.worked(expression)[1]

    def worked(self, expression):
        """The sort and the lot of an expression."""
        word = expression[0]
        if word in LEAVES:
            return self.leaf(word, expression[1])
        if word in ("and", "or"):
            return ("int", self.both(word, expression))
        parts = [self.worked(part) for part in expression[1:]]
        sort = sort_made(word, parts[0][0])
        if {} in [lot for _, lot in parts]:
            return (sort, {})
        if word in RANGES:
            return (sort, bands_made(self, word, parts))
        deed = DEEDS[word]
        return (sort, deed(self, parts))

    def leaf(self, word, told):
        """The sort and the lot of an expression without parts."""
        grounds = self.grounds
        if word in ("int", "byte"):
            return (word, {BAND: self.bands.within(told, told)})
        if word == "null":
            return (("to", told), {NULL: 1})
        if word == "local":
            place, sort = grounds.names.locals[self.owner][told]
            lot = self.guess[place]
            return (sort, {key: lot[key] for key in lot if key != UNSET})
        if word == "shared":
            number, sort = grounds.names.shared[told]
            return (("to", sort), grounds.place_at(("shared", number), 0))
        number, sort = grounds.names.blocks[self.owner][told]
        return (("to", sort), grounds.place_at(("local", self.owner, number), 2))

    def both(self, word, expression):
        """ "and", "or": the second part counts if the first one may not settle it."""
        holds, fails = self.hold_fail(self.lot_of(expression[1]))
        going = holds if word == "and" else fails
        may_hold, may_fail = self.hold_fail(self.lot_of(expression[2])) if going else (False, False)
        if word == "and":
            return self.bands.truth(may_hold, may_fail or fails)
        return self.bands.truth(may_hold or holds, may_fail)

    def hold_fail(self, lot):
        """Whether an int with this lot may be another number than 0, and whether it may be 0."""
        bits = lot.get(BAND, 0)
        nought = self.bands.nought
        return (bits & ~nought != 0, bits & nought != 0)


def span_of(worker, part):
    """The range of a lot of bands."""
    return worker.bands.span(part[1][BAND])


def do_at(worker, parts):
    """What the cells may hold, set."""
    found = {}
    lot = parts[0][1]
    for place in places_in(lot):
        if lot[place] & inside(place[1]) != 0:
            join(found, worker.cells[place[0]])
    return {key: found[key] for key in found if key != UNSET}


def do_on(worker, parts):
    """Places moved; null only by 0."""
    lot = parts[0][1]
    low, high = span_of(worker, parts[1])
    found = {}
    if NULL in lot and parts[1][1][BAND] & worker.bands.nought != 0:
        found[NULL] = 1
    for place in places_in(lot):
        bits = 0
        for by in range(max(low, -MOST_MOVED), min(high, MOST_MOVED) + 1):
            bits = bits | moved(lot[place], by)
        bits = bits & inside(place[1] + 1)
        if bits != 0:
            found[place] = bits
    return found


def bands_made(worker, word, parts):
    """The bands of the ranges that come of those of two parts."""
    found = {}
    for low, high in ranges_made(worker, word, parts):
        join(found, worker.bands.of_sort(parts[0][0], low, high))
    return found


def ranges_made(worker, word, parts):
    """The ranges that come of those of two parts; of "share" and "rest" one for second parts below 0,
    and one for those above."""
    range_made = RANGES[word]
    first = span_of(worker, parts[0])
    if word not in ("share", "rest"):
        return [range_made(first, span_of(worker, parts[1]))]
    bits = parts[1][1][BAND]
    bands = worker.bands
    halves = [bits & bands.within(bands.rows[0][0], -1), bits & bands.within(1, bands.rows[-1][1])]
    return [range_made(first, bands.span(half)) for half in halves if half != 0]


def range_of_sum(first, second):
    """From the least to the greatest sum."""
    return (first[0] + second[0], first[1] + second[1])


def range_of_less(first, second):
    """From the least to the greatest difference."""
    return (first[0] - second[1], first[1] - second[0])


def range_of_times(first, second):
    """From the least to the greatest product."""
    products = [one * other for one in first for other in second]
    return (min(products), max(products))


def range_of_share(first, second):
    """From the least to the greatest quotient; the second ones are all below or all above 0."""
    quotients = [one // other for one in first for other in second]
    return (min(quotients), max(quotients))


def range_of_rest(first, second):
    """What quotients may leave; the second ones are all below or all above 0."""
    low, high = first
    least, most = second
    if least > 0:
        return (0, min(most - 1, high) if low >= 0 else most - 1)
    return (max(least + 1, low) if high <= 0 else least + 1, 0)


RANGES = {"sum": range_of_sum, "less": range_of_less, "times": range_of_times, "share": range_of_share,
          "rest": range_of_rest}


def do_wide(worker, parts):
    """The same numbers."""
    return dict(parts[0][1])


def do_low(worker, parts):
    """The numbers modulo 256."""
    low, high = span_of(worker, parts[0])
    return worker.bands.of_sort("byte", low, high)


def do_not(worker, parts):
    """Holds for 0."""
    may_hold, may_fail = worker.hold_fail(parts[0][1])
    return worker.bands.truth(may_fail, may_hold)


def do_below(worker, parts):
    """Whether numbers or pointers may be below one another, and may not be."""
    if isinstance(parts[0][0], tuple):
        gaps = gaps_of(worker, parts)
        return worker.bands.truth(any([gap < 0 for gap in gaps]), any([gap >= 0 for gap in gaps]))
    first = span_of(worker, parts[0])
    second = span_of(worker, parts[1])
    return worker.bands.truth(first[0] < second[1], first[1] >= second[0])


def do_gap(worker, parts):
    """The bands of the differences of offsets."""
    found = {}
    for gap in gaps_of(worker, parts):
        join(found, worker.bands.of_sort("int", gap, gap))
    return found


def gaps_of(worker, parts):
    """By how much the first offset may be above the second one, of pointers into one block or of null."""
    first, second = parts[0][1], parts[1][1]
    found = [0] if NULL in first and NULL in second else []
    for one in places_in(first):
        for other in places_in(second):
            if may_be_one(one, other):
                found.extend([gap for gap in range(-MOST_MOVED, MOST_MOVED + 1)
                              if moved(second[other], gap) & first[one] != 0])
    return found


def moved(bits, by):
    """Offsets moved by so many."""
    return bits << by if by >= 0 else bits >> -by


def may_be_one(one, other):
    """Whether two places (site, many, firm) may be of one block."""
    return one[:2] == other[:2] and (one[2], other[2]) not in ((1, 2), (2, 1))


def are_one(worker, one, other):
    """Whether two places are surely of one block."""
    if one[:2] != other[:2]:
        return False
    return worker.grounds.kind_of(one[0]) == "shared" or one[2] == other[2] == 2


def do_same(worker, parts):
    """Whether two values may be the same, and may be unlike."""
    first, second = parts[0][1], parts[1][1]
    if not isinstance(parts[0][0], tuple):
        low, high = worker.bands.span(first[BAND] | second[BAND])
        return worker.bands.truth(first[BAND] & second[BAND] != 0, low != high)
    may_hold = NULL in first and NULL in second
    may_fail = (NULL in first and places_in(second) != []) or (NULL in second and places_in(first) != [])
    for one in places_in(first):
        for other in places_in(second):
            if may_be_one(one, other) and first[one] & second[other] != 0:
                may_hold = True
            if not are_one(worker, one, other) or not is_one_bit(first[one] | second[other]):
                may_fail = True
    return worker.bands.truth(may_hold, may_fail)


def is_one_bit(bits):
    """Whether just one bit is there."""
    return bits & (bits - 1) == 0


DEEDS = {"at": do_at, "on": do_on, "gap": do_gap, "same": do_same, "below": do_below, "wide": do_wide,
         "low": do_low, "not": do_not}
