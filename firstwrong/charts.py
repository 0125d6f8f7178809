"""Charts: what instructions demand of them.

A demand is a triple (kind, where, what): of the cells of a site that they have
a lot, of "gives" that it has a site, of what a function returns that it has a
lot, of a function that it may be so deep, of a position (function, position)
that its guess bears another one.
"""

from firstwrong.chartforms import MOST_DEEP
from firstwrong.lots import BAND, NULL, UNSET, Worker, has_all, inside, join, places_in
from firstwrong.parts import add_expression, expressions_of

# What a place's firm 0, 1, 2 becomes: in a cell, as a param that is handed on, as what is returned.
IN_CELL = (0, 0, 0)
HANDED = (0, 1, 1)
RETURNED = (0, 1, 0)


def put(lot, firms):
    """A lot with other firms."""
    found = {}
    for key in lot:
        place = key[:2] + (firms[key[2]],) if isinstance(key, tuple) else key
        join(found, {place: lot[key]})
    return found


def put_back(grounds, function, lot):
    """What comes back from a call to a function: its own blocks are known as such, too."""
    found = dict(lot)
    for key in places_in(lot):
        site, many, firm = key
        if firm == 1 and grounds.sites[site][:2] == ("local", function):
            join(found, {(site, many, 2): lot[key]})
    return found


def first_demands(grounds):
    """What stands at the beginning of each run."""
    code = grounds.code
    found = []
    for site, sort in enumerate(grounds.sorts):
        if grounds.kind_of(site) == "shared":
            found.append(("cells", site, {NULL: 1} if isinstance(sort, tuple) else {BAND: grounds.bands.nought}))
    for word in code.threads:
        function = code.names.functions[word]
        found.append(("deep", function, 1))
        found.extend(entered(grounds, function, []))
    return found


def entered(grounds, function, lots):
    """A function that is entered with params of these lots."""
    head = grounds.code.functions[function]
    found = [("guess", (function, 0), lots + [{UNSET: 1} for _ in head[2]])]
    for number in range(len(head[3])):
        found.append(("cells", grounds.numbers[("local", function, number)], {UNSET: 1}))
    return found


def ways_on(code, function, position):
    """The ways on from a position: which goal of a "test" (None for others), and the goal (None for "return")."""
    _, goals = code.lines[function][position]
    if len(goals) == 2:
        return list(enumerate(goals))
    return [(None, goals[0] if goals != () else None)]


def goes_well(worker, instruction, way):
    """Whether an instruction goes well with a worker's guess, by this goal of a "test"."""
    lots = [worker.lot_of(expression) for expression in expressions_of(instruction)]
    if {} in lots:
        return False
    word = instruction[0]
    bands = worker.bands
    if word == "store":
        return has_cell(lots[0])
    if word == "away":
        return NULL in lots[0] or firsts_made(worker.grounds, lots[0]) != []
    if word == "make":
        return lots[0][BAND] & bands.within(1, 16) != 0
    if word == "test":
        return worker.hold_fail(lots[0])[way]
    return True


def has_cell(lot):
    """Whether a lot has a place with a cell."""
    return any([lot[place] & inside(place[1]) != 0 for place in places_in(lot)])


def firsts_made(grounds, lot):
    """The "made" sites of which a lot has a place at the first cell."""
    return [place[0] for place in places_in(lot) if lot[place] & 1 != 0 and grounds.kind_of(place[0]) == "made"]


def locals_read(grounds, function, instruction):
    """The places of the params and locals that an instruction reads, each once."""
    found = []
    for expression in expressions_of(instruction):
        add_expression(found, (), expression)
    table = grounds.names.locals[function]
    return sorted(set([table[piece[1]][0] for _, piece in found if piece[0] == "local"]))


def sifted(worker, instruction, way, known):
    """The worker's guess sifted for an instruction; None if there is none.

    known leads from locals to traits that were kept for it before, of a guess
    that this one bears: what goes well goes well with more beside it, too.
    """
    if not goes_well(worker, instruction, way):
        return None
    found = list(worker.guess)
    for place in locals_read(worker.grounds, worker.owner, instruction):
        kept = known.setdefault(place, {})
        sift_local(worker, instruction, way, place, kept)
        if kept == {}:
            return None
        found[place] = dict(kept)
    if not goes_well(worker.with_guess(found), instruction, way):
        return None
    return found


def sift_local(worker, instruction, way, place, kept):
    """Adds the traits of a local with which alone an instruction goes well."""
    lot = worker.guess[place]
    for key in lot:
        left = lot[key] & ~kept.get(key, 0)
        while left != 0:
            bit = left & -left
            left = left & ~bit
            alone = list(worker.guess)
            alone[place] = {key: bit}
            if goes_well(worker.with_guess(alone), instruction, way):
                join(kept, {key: bit})


def demands_at(grounds, chart, function, position, known):
    """What a position that has a guess demands.

    known leads to what sifted keeps of each position and way.
    """
    rows = grounds.code.lines[function]
    if position == len(rows):
        none = grounds.code.functions[function][4] == "none"
        return [("results", function, {} if none else {UNSET: 1})]
    instruction = grounds.code.instructions[function][position]
    worker = Worker(grounds, function, chart.guesses[function][position], chart.cells)
    found = []
    for way, goal in ways_on(grounds.code, function, position):
        guess = sifted(worker, instruction, way, known.setdefault((function, position, way), {}))
        if guess is not None:
            found.extend(demands_of(worker.with_guess(guess), chart, instruction, position, goal))
    return found


def demands_of(worker, chart, instruction, position, goal):
    """What an instruction demands with a sifted guess."""
    grounds, function = worker.grounds, worker.owner
    lots = [worker.lot_of(expression) for expression in expressions_of(instruction)]
    word = instruction[0]
    if word == "return":
        return [("results", function, put(lots[0], RETURNED) if lots != [] else {})]
    found = []
    guess = list(worker.guess)
    if word == "store":
        sites = [place[0] for place in places_in(lots[0]) if lots[0][place] & inside(place[1]) != 0]
        found = [("cells", site, put(lots[1], IN_CELL)) for site in sites]
    elif word == "away":
        found = [("gives", site, None) for site in firsts_made(grounds, lots[0])]
    elif word == "make":
        found = [("cells", grounds.numbers[("made", function, position)], {UNSET: 1})]
    elif word == "call":
        found = demands_of_call(worker, chart, instruction, lots)
        if chart.results[grounds.names.functions[instruction[2]]] is None:
            return found
    if word in ("let", "ask", "make", "call") and instruction[1] != "":
        place, _ = grounds.names.locals[function][instruction[1]]
        guess[place] = lot_got(worker, chart, instruction, position, lots)
    return found + [("guess", (function, goal), guess)]


def demands_of_call(worker, chart, instruction, lots):
    """What a "call" demands of the function called."""
    called = worker.grounds.names.functions[instruction[2]]
    deep = min(MOST_DEEP, chart.deep[worker.owner] + 1)
    return [("deep", called, deep)] + entered(worker.grounds, called, [put(lot, HANDED) for lot in lots])


def lot_got(worker, chart, instruction, position, lots):
    """The lot that the local of an instruction gets."""
    grounds, bands = worker.grounds, worker.bands
    word = instruction[0]
    if word == "let":
        return lots[0]
    if word == "ask":
        return {BAND: bands.within(instruction[2], instruction[3])}
    if word == "call":
        called = grounds.names.functions[instruction[2]]
        return put_back(grounds, worker.owner, chart.results[called])
    site = grounds.numbers[("made", worker.owner, position)]
    found = {NULL: 1}
    for many in grounds.cells[site]:
        if lots[0][BAND] & bands.within(many, many) != 0:
            found[(site, many, 0)] = 1
    return found


def is_met(chart, demand):
    """Whether a chart meets a demand."""
    kind, where, what = demand
    if kind == "cells":
        return has_all(chart.cells[where], what)
    if kind == "gives":
        return where in chart.gives
    if kind == "results":
        return chart.results[where] is not None and has_all(chart.results[where], what)
    if kind == "deep":
        return chart.deep[where] >= what
    guess = chart.guesses[where[0]][where[1]]
    return guess is not None and all([has_all(lot, wanted) for lot, wanted in zip(guess, what)])


def meet(chart, demand):
    """The chart becomes one that meets a demand."""
    kind, where, what = demand
    if kind == "cells":
        join(chart.cells[where], what)
    elif kind == "gives":
        chart.gives[where] = True
    elif kind == "results":
        chart.results[where] = joined_lot(chart.results[where], what)
    elif kind == "deep":
        chart.deep[where] = max(chart.deep[where], what)
    else:
        function, position = where
        guess = chart.guesses[function][position]
        lots = [None] * len(what) if guess is None else guess
        chart.guesses[function][position] = [joined_lot(lot, wanted) for lot, wanted in zip(lots, what)]


def joined_lot(lot, other):
    """Two lots together; the first one may be None."""
    found = {} if lot is None else dict(lot)
    join(found, other)
    return found
