"""Traits of the values of a code: the bands of its numbers, and the sites of its blocks."""

from firstwrong.codes import need_code

LADDER = (-(2 ** 31), -1, 0, 1, 255, 256, 2 ** 31 - 1)


def ladder_of(code):
    """The ascending list of the numbers that a code tells, and of some more."""
    found = list(LADDER)
    for rows in code.lines:
        for ops, _ in rows:
            for op in ops:
                if op[0] in ("int", "byte"):
                    found.append(op[1])
                elif op[0] == "ask":
                    found.extend(op[2:])
    return sorted(set(found))


def bands_of(code):
    """The bands: each number of the ladder, and what lies between neighbours."""
    need_code(code)
    ladder = ladder_of(code)
    found = [(ladder[0], ladder[0])]
    for low, high in zip(ladder, ladder[1:]):
        if high - low > 1:
            found.append((low + 1, high - 1))
        found.append((high, high))
    return tuple(found)


def sites_of(code):
    """The sites at which blocks are made, with the sorts of their cells."""
    need_code(code)
    found = [(("shared", number), block[1]) for number, block in enumerate(code.shared)]
    for function, head in enumerate(code.functions):
        found.extend([(("local", function, number), block[1]) for number, block in enumerate(head[3])])
    for function, rows in enumerate(code.lines):
        for position, (ops, _) in enumerate(rows):
            if ops[-1][0] == "make":
                found.append((("made", function, position), ops[-1][2]))
    return tuple(sorted(found))


def many_cells(code, site):
    """How many cells the blocks of a site may have, ascending."""
    if site[0] == "shared":
        return (code.shared[site[1]][2],)
    if site[0] == "local":
        return (code.functions[site[1]][3][site[2]][2],)
    return tuple(range(1, 17))
