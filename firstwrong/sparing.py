"""Checks that a closed chart shows needless, and codes without them."""

from firstwrong.bodies import STATEMENTS
from firstwrong.chartforms import MOST_DEEP
from firstwrong.closings import closed_read
from firstwrong.codeops import instruction_pairs, is_check
from firstwrong.codes import kept_of, need_code, without
from firstwrong.errors import BadChart
from firstwrong.kinds import is_int
from firstwrong.lots import BAND, NULL, UNSET, Grounds, Worker, are_one, inside, places_in, ranges_made, span_of
from firstwrong.parts import expressions_of


def needless(code, chart):
    """The checks of a code that a closed chart shows needless."""
    need_code(code)
    grounds = Grounds(code)
    known = closed_read(grounds, chart)
    if known is None:
        raise BadChart("a closed chart of the code is wanted")
    found = []
    for function, rows in enumerate(code.lines):
        for position in range(len(rows)):
            judge = CheckJudge(grounds, known, function, position)
            found.extend([(function, position, spot) for spot in judge.needless_spots()])
    return found


def spared(code, chart):
    """The code without the checks that a closed chart shows needless."""
    return without(code, needless(code, chart))


class CheckJudge:
    """Judges the checks of one line by a closed chart."""

    def __init__(self, grounds, chart, function, position):
        self.grounds = grounds
        self.chart = chart
        self.owner = function
        self.position = position
        self.guess = chart.guesses[function][position]
        self.worker = Worker(grounds, function, self.guess, chart.cells)

    def needless_spots(self):
        """The ascending list of the places of the line's needless checks."""
        code = self.grounds.code
        ops, _ = code.lines[self.owner][self.position]
        if self.guess is None:
            return [spot for spot, op in enumerate(ops) if is_check(op)]
        pairs = instruction_pairs(code.names, self.owner, code.instructions[self.owner][self.position])
        kept = kept_of([op for op, _ in pairs], ops)
        there = [pair for pair, is_there in zip(pairs, kept) if is_there]
        return [spot for spot, (op, piece) in enumerate(there) if is_check(op) and not self.is_needed(op[1], piece)]

    def is_needed(self, word, piece):
        """Whether the check of a wrong word is needed for a piece."""
        if word == "unset" and piece[0] == "local":
            place, _ = self.grounds.names.locals[self.owner][piece[1]]
            return UNSET in self.guess[place]
        parts = expressions_of(piece) if piece[0] in STATEMENTS else piece[1:]
        deed = NEEDED[word]
        return deed(self, piece, [self.worker.worked(part) for part in parts])


def needs_unset(judge, piece, parts):
    """A cell that "at" reads may be unset."""
    lot = parts[0][1]
    return any([UNSET in judge.chart.cells[place[0]] for place in places_in(lot) if lot[place] & inside(place[1]) != 0])


def needs_null(judge, piece, parts):
    """A pointer that must not be null may be."""
    first = parts[0][1]
    if piece[0] in ("at", "store"):
        return NULL in first
    second = parts[1][1]
    if piece[0] == "on":
        return NULL in first and second.get(BAND, 0) & ~judge.grounds.bands.nought != 0
    return (NULL in first and places_in(second) != []) or (NULL in second and places_in(first) != [])


def needs_gone(judge, piece, parts):
    """The block of a pointer that is looked at may be gone."""
    # What "store" writes is not looked at, be it a pointer or not.
    looked = parts[:1] if piece[0] == "store" else parts
    return any([may_be_gone(judge, place) for _, lot in looked for place in places_in(lot)])


def may_be_gone(judge, place):
    """Whether the block of a place (site, many, firm) may be gone."""
    return place[0] in judge.chart.gives or (judge.grounds.kind_of(place[0]) == "local" and place[2] == 0)


def needs_beyond(judge, piece, parts):
    """A pointer may stand at the end of its block, or be moved off it."""
    lot = parts[0][1]
    if piece[0] != "on":
        return any([lot[place] >> place[1] & 1 != 0 for place in places_in(lot)])
    if parts[1][1] == {}:
        return False
    low, high = span_of(judge.worker, parts[1])
    return any([low_offset(lot[place]) + low < 0 or high_offset(lot[place]) + high > place[1]
                for place in places_in(lot)])


def low_offset(bits):
    """The least offset of some."""
    return (bits & -bits).bit_length() - 1


def high_offset(bits):
    """The greatest offset of some."""
    return bits.bit_length() - 1


def needs_unlike(judge, piece, parts):
    """Two pointers may lead into unlike blocks."""
    first, second = places_in(parts[0][1]), places_in(parts[1][1])
    return any([not are_one(judge.worker, one, other) for one in first for other in second])


def needs_great(judge, piece, parts):
    """A number may be too great."""
    if piece[0] == "make":
        bits = parts[0][1].get(BAND, 0)
        bands = judge.grounds.bands
        return any([not (1 <= low and high <= 16) for place, (low, high) in enumerate(bands.rows) if bits >> place & 1])
    if {} in [lot for _, lot in parts]:
        return False
    ranges = ranges_made(judge.worker, piece[0], parts)
    return any([not is_int(low) or not is_int(high) for low, high in ranges])


def needs_share(judge, piece, parts):
    """What is shared by may be 0."""
    return parts[1][1].get(BAND, 0) & judge.grounds.bands.nought != 0


def needs_away(judge, piece, parts):
    """What is given back may be no made block's first cell."""
    lot = parts[0][1]
    return any([lot[place] != 1 or judge.grounds.kind_of(place[0]) != "made" for place in places_in(lot)])


def needs_deep(judge, piece, parts):
    """There may be too many frames, or blocks."""
    called = judge.grounds.names.functions[piece[2]]
    return judge.grounds.code.functions[called][3] != () or judge.chart.deep[judge.owner] == MOST_DEEP


def needs_always(judge, piece, parts):
    """A chart tells nothing of locks."""
    return True


def needs_never(judge, piece, parts):
    """No pointer is of another sort than its block."""
    return False


NEEDED = {"unset": needs_unset, "null": needs_null, "gone": needs_gone, "beyond": needs_beyond,
          "unlike": needs_unlike, "great": needs_great, "share": needs_share, "away": needs_away,
          "deep": needs_deep, "lock": needs_always, "kind": needs_never}
