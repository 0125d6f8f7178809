"""Charts as they are told, by tuples, and as they are worked with, by lots."""

from firstwrong.kinds import is_number, is_number_in, is_tuple_of
from firstwrong.lots import BAND, NULL, UNSET, join

MOST_DEEP = 12
MOST_FIRM = 2


class Chart:
    """A chart as it is worked with.

    cells has a lot for each site, gives leads from the sites whose blocks may be
    given back, results has None or a lot for each function, deep a number;
    guesses has for each function a list with None or a list of lots.
    """

    def __init__(self, cells, gives, results, deep, guesses):
        self.cells = cells
        self.gives = gives
        self.results = results
        self.deep = deep
        self.guesses = guesses


def empty_chart(grounds):
    """The chart without anything."""
    code = grounds.code
    many = len(code.functions)
    guesses = [[None] * (len(rows) + 1) for rows in code.lines]
    return Chart([{} for _ in grounds.sites], {}, [None] * many, [0] * many, guesses)


def sorts_of(head):
    """The sorts of a function's params and locals."""
    return [sort for _, sort in head[1] + head[2]]


def lot_told(grounds, lot):
    """A lot as the ascending tuple of its traits."""
    found = []
    for key in lot:
        if key == BAND:
            rows = grounds.bands.rows
            found.extend([("band",) + rows[place] for place in bits_in(lot[key])])
        elif isinstance(key, tuple):
            site, many, firm = key
            found.extend([("to", grounds.sites[site], many, offset, firm) for offset in bits_in(lot[key])])
        else:
            found.append((key,))
    return tuple(sorted(found))


def bits_in(bits):
    """The ascending list of the places of the bits that are there."""
    return [place for place in range(bits.bit_length()) if bits >> place & 1]


def chart_told(grounds, chart):
    """A chart as its quintuple of tuples."""
    cells = tuple([lot_told(grounds, lot) for lot in chart.cells])
    gives = tuple([grounds.sites[site] for site in sorted(chart.gives)])
    results = tuple([None if lot is None else lot_told(grounds, lot) for lot in chart.results])
    guesses = []
    for row in chart.guesses:
        guesses.append(tuple([None if guess is None else tuple([lot_told(grounds, lot) for lot in guess])
                              for guess in row]))
    return (cells, gives, results, tuple(chart.deep), tuple(guesses))


class ChartReader:
    """Reads what may be a chart; fine tells whether all till now was."""

    def __init__(self, grounds):
        self.grounds = grounds
        self.bands = {row: place for place, row in enumerate(grounds.bands.rows)}
        self.fine = True

    def need(self, holds):
        """What does not hold is never fine again; whether it holds."""
        if not holds:
            self.fine = False
        return holds

    def read_rows(self, thing, many):
        """A tuple of so many things; () if it is none."""
        return thing if self.need(is_tuple_of(thing, many)) else ()

    def read_chart(self, thing):
        """The chart; None if it is none."""
        if not is_tuple_of(thing, 5):
            return None
        grounds = self.grounds
        functions = grounds.code.functions
        cells, gives, results, deep, guesses = thing
        lots = [self.read_lot(lot, sort) for lot, sort in zip(self.read_rows(cells, len(grounds.sites)), grounds.sorts)]
        found = Chart(lots, self.read_given(gives), [], [], [])
        for result, head in zip(self.read_rows(results, len(functions)), functions):
            found.results.append(self.read_result(result, head[4]))
        for number in self.read_rows(deep, len(functions)):
            self.need(is_number_in(number, 0, MOST_DEEP))
            found.deep.append(number)
        for row, head, lines in zip(self.read_rows(guesses, len(functions)), functions, grounds.code.lines):
            found.guesses.append([self.read_guess(guess, head) for guess in self.read_rows(row, len(lines) + 1)])
        return found if self.fine else None

    def read_site(self, thing):
        """The number of a site; None if it is none."""
        if not isinstance(thing, tuple) or thing == ():
            return None
        if not isinstance(thing[0], str) or not all([is_number(part) for part in thing[1:]]):
            return None
        return self.grounds.numbers.get(thing)

    def read_given(self, thing):
        """The "made" sites whose blocks may be given back, ascending."""
        found = {}
        last = -1
        for told in thing if self.need(isinstance(thing, tuple)) else ():
            site = self.read_site(told)
            if self.need(site is not None and site > last and self.grounds.kind_of(site) == "made"):
                found[site] = True
                last = site
        return found

    def read_result(self, thing, sort):
        """What a function may return."""
        if thing is None:
            return None
        if sort == "none":
            self.need(is_tuple_of(thing, 0))
            return {}
        return self.read_some(thing, sort)

    def read_guess(self, thing, head):
        """The lots of a function's params and locals; None if there are none."""
        if thing is None:
            return None
        sorts = sorts_of(head)
        return [self.read_some(lot, sort) for lot, sort in zip(self.read_rows(thing, len(sorts)), sorts)]

    def read_some(self, thing, sort):
        """A lot that is not ()."""
        found = self.read_lot(thing, sort)
        self.need(found != {})
        return found

    def read_lot(self, thing, sort):
        """A lot of a sort: its traits ascend, so each is there once."""
        found = {}
        last = ()
        for trait in thing if self.need(isinstance(thing, tuple)) else ():
            told = self.read_trait(trait, sort)
            if self.need(told is not None and last < trait):
                join(found, told)
                last = trait
        return found

    def read_trait(self, thing, sort):
        """A trait of a sort, as a lot; None if it is none."""
        if not isinstance(thing, tuple) or thing == () or not isinstance(thing[0], str):
            return None
        if thing == ("unset",):
            return {UNSET: 1}
        if isinstance(sort, tuple):
            return {NULL: 1} if thing == ("null",) else self.read_place(thing, sort)
        if not is_tuple_of(thing, 3) or thing[0] != "band" or not all([is_number(part) for part in thing[1:]]):
            return None
        place = self.bands.get(thing[1:])
        if place is None or (sort == "byte" and not 0 <= thing[1] <= 255):
            return None
        return {BAND: 1 << place}

    def read_place(self, thing, sort):
        """A place of a sort, as a lot; None if it is none."""
        if not is_tuple_of(thing, 5) or thing[0] != "to" or not all([is_number(part) for part in thing[2:]]):
            return None
        site = self.read_site(thing[1])
        _, _, many, offset, firm = thing
        if site is None or ("to", self.grounds.sorts[site]) != sort or many not in self.grounds.cells[site]:
            return None
        if not 0 <= offset <= many or not 0 <= firm <= MOST_FIRM:
            return None
        if firm > 0 and self.grounds.kind_of(site) != "local":
            return None
        return {(site, many, firm): 1 << offset}
