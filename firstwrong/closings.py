"""Closed charts: judged, and the least one of a code."""

from firstwrong.chartforms import ChartReader, chart_told, empty_chart
from firstwrong.charts import demands_at, first_demands, is_met, meet
from firstwrong.codes import need_code
from firstwrong.lots import Grounds
from firstwrong.parts import add_expression, expressions_of


def is_closed_chart(code, thing):
    """Whether any value is a closed chart of a code."""
    need_code(code)
    return closed_read(Grounds(code), thing) is not None


def closed_read(grounds, thing):
    """A closed chart as it is worked with; None if this is none."""
    chart = ChartReader(grounds).read_chart(thing)
    if chart is None or not all([is_met(chart, demand) for demand in first_demands(grounds)]):
        return None
    for function, row in enumerate(chart.guesses):
        for position, guess in enumerate(row):
            demands = demands_at(grounds, chart, function, position, {}) if guess is not None else []
            if not all([is_met(chart, demand) for demand in demands]):
                return None
    return chart


def chart_of(code):
    """The least closed chart of a code."""
    need_code(code)
    grounds = Grounds(code)
    grower = Grower(grounds)
    grower.grow()
    return chart_told(grounds, grower.chart)


class Grower:
    """Lets a chart grow until it is closed.

    waiting has the positions whose demands may be others by now, known what was
    sifted; readers are the positions that read cells, callers those that call.
    """

    def __init__(self, grounds):
        self.grounds = grounds
        self.chart = empty_chart(grounds)
        self.known = {}
        self.waiting = {}
        self.readers = []
        self.callers = []
        for function, rows in enumerate(grounds.code.instructions):
            for position, instruction in enumerate(rows):
                if instruction[0] == "call":
                    called = grounds.names.functions[instruction[2]]
                    self.callers.append(((function, position), called))
                if reads_cells(instruction):
                    self.readers.append((function, position))

    def grow(self):
        """Meets all demands."""
        self.take_all(first_demands(self.grounds))
        while self.waiting != {}:
            row = sorted(self.waiting)
            self.waiting = {}
            for function, position in row:
                self.take_all(demands_at(self.grounds, self.chart, function, position, self.known))

    def take_all(self, demands):
        """Meets these demands; what hangs on them waits."""
        for demand in demands:
            if not is_met(self.chart, demand):
                meet(self.chart, demand)
                for where in self.hang_on(demand):
                    if self.chart.guesses[where[0]][where[1]] is not None:
                        self.waiting[where] = True

    def hang_on(self, demand):
        """The positions whose demands may be others when this one is met."""
        kind, where, _ = demand
        if kind == "guess":
            return [where]
        if kind == "cells":
            return self.readers
        if kind == "results":
            return [spot for spot, called in self.callers if called == where]
        if kind == "deep":
            return [spot for spot, _ in self.callers if spot[0] == where]
        return []


def reads_cells(instruction):
    """Whether an instruction works out an "at"."""
    found = []
    for expression in expressions_of(instruction):
        add_expression(found, (), expression)
    return any([piece[0] == "at" for _, piece in found])
