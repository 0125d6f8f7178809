"""Weavings with traces, ledgers, and all weavings of small counts, made by trying, for the tests."""

import random

WRONG = ("wrong",)
CELLS = (("cell", 0, 1, 0), ("cell", 0, 1, 1), ("cell", 3, 2, 0), ("block", 3, 2), ("block", 0, 1), ("free",), ("lock", "a"), ("lock", "b"),
         ("asked",), ("given",))


def names(weaving):
    """The names of the steps of a weaving."""
    found = []
    for thread in weaving:
        found.append((thread, sum(one == thread for one, _ in found)))
    return found


def counts_of(weaving):
    return tuple(list(weaving).count(thread) for thread in range(4))


def all_weavings(counts):
    """All weavings with so many steps of each thread, ascending."""
    found = [((), tuple(counts))]
    for _ in range(sum(counts)):
        found = [(woven + (thread,), left[:thread] + (left[thread] - 1,) + left[thread + 1:])
                 for woven, left in found for thread in range(4) if left[thread]]
    return [woven for woven, _ in found]


def keeps(entries, weaving):
    """Whether each entry's one stands ahead of its other."""
    rows = names(weaving)
    return all(rows.index(one) < rows.index(other) for one, other in entries)


def keeping(ledger):
    """All weavings that keep a ledger, ascending."""
    return [woven for woven in all_weavings(ledger[0]) if keeps(ledger[1], woven)]


def woven(seed, most=9, threads=4, wrong=0.05):
    """A weaving with traces: few cells, so that many steps meet."""
    dice = random.Random(seed)
    weaving = [dice.randrange(threads) for _ in range(dice.randint(0, most))]
    cells = dice.sample(CELLS, dice.randint(1, 5))
    some = lambda: tuple(dice.choice(cells) for _ in range(dice.choice((0, 0, 1, 1, 2, 3))))
    traces = []
    for _ in weaving:
        trace = (some(), some(), dice.choice((None, (), 5)))
        traces.append((trace[0], (WRONG,), ()) if dice.random() < wrong else trace)
    return weaving, traces


def do_meet(one, other):
    """Whether two traces of unlike threads meet."""
    if WRONG in one[1] or WRONG in other[1]:
        return True
    return bool(set(one[1]) & set(other[0] + other[1])) or bool(set(other[1]) & set(one[0]))


def in_order(one, other):
    """Whether an order cell orders two traces."""
    order = lambda cells: {cell for cell in cells if cell[0] in ("lock", "free", "asked", "given")}
    return bool(order(one[1]) & order(other[0] + other[1])) or bool(order(other[1]) & order(one[0]))


def in_memory(one, other):
    """Whether two traces meet at a memory cell."""
    memory = lambda cells: {cell for cell in cells if cell[0] in ("cell", "block")}
    return bool(memory(one[1]) & memory(other[0] + other[1])) or bool(memory(other[1]) & memory(one[0]))


def ahead(weaving, traces, does):
    """All pairs of places (i, j) of steps of which one must be ahead of the other, as does tells it of unlike threads."""
    many = len(weaving)
    known = {(i, j) for j in range(many) for i in range(j) if weaving[i] == weaving[j] or does(traces[i], traces[j])}
    for middle in range(many):
        known |= {(i, j) for i in range(many) for j in range(many) if (i, middle) in known and (middle, j) in known}
    return known


def ledger_by_pairs(weaving, known):
    """The ledger of the pairs of unlike threads with nothing between them."""
    rows = names(weaving)
    entries = [(rows[i], rows[j]) for i, j in known if weaving[i] != weaving[j]
               and not any((i, k) in known and (k, j) in known for k in range(len(weaving)))]
    return counts_of(weaving), tuple(sorted(entries))


def clocks_by_pairs(weaving, known):
    return [tuple(sum(weaving[i] == thread and (i == j or (i, j) in known) for i in range(len(weaving))) for thread in range(4))
            for j in range(len(weaving))]


def ledgers(many, most=7):
    """Ledgers by seeds: some of weavings with traces, some with entries more than needed."""
    found = [((0, 0, 0, 0), ()), ((3, 0, 0, 0), ()), ((1, 1, 1, 1), ()), ((2, 1, 0, 0), (((0, 0), (1, 0)), ((1, 0), (0, 1)))),
             ((2, 2, 0, 0), (((0, 0), (1, 0)), ((0, 0), (1, 1)), ((0, 1), (1, 1))))]
    for seed in range(many):
        dice = random.Random(seed)
        weaving = [dice.randrange(dice.choice((2, 3, 4))) for _ in range(dice.randint(2, most))]
        rows = names(weaving)
        pairs = [(one, other) for at, other in enumerate(rows) for one in rows[:at] if one[0] != other[0]]
        entries = dice.sample(pairs, min(len(pairs), dice.choice((0, 1, 2, 3, 5, 8))))
        found.append((counts_of(weaving), tuple(sorted(entries))))
    return found


def shuffled(counts, seed):
    """Some weaving with these counts."""
    row = [thread for thread in range(4) for _ in range(counts[thread])]
    random.Random(seed).shuffle(row)
    return row
