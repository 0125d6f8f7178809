"""Trees judged in their told sequence: the first wrong piece raises BadTree.

All but the bodies of functions; these are judged in bodies.py.
"""

from firstwrong.bodies import BodyJudge
from firstwrong.errors import BadTree
from firstwrong.kinds import is_number_in, is_one_of, is_tuple_of, is_word
from firstwrong.names import Names
from firstwrong.values import is_cell_sort, is_sort


def need(holds, place):
    """A piece that is wrong is told by its place."""
    if not holds:
        raise BadTree(place)


def need_tuple(thing, most, place):
    """A tuple of at most so many things."""
    need(isinstance(thing, tuple) and len(thing) <= most, place)


def judge_tree(tree):
    """The whole tree; the tables of its names come back."""
    need(is_tuple_of(tree, 4), ())
    shared, locks, functions, threads = tree
    judge_shared(shared)
    judge_locks(locks)
    need_tuple(functions, 12, (2,))
    for number, function in enumerate(functions):
        judge_head(functions, number, function)
    names = Names(shared, locks, functions)
    for number, function in enumerate(functions):
        BodyJudge(names, number).body(function[5], (2, number, 5), 1)
    judge_threads(threads, names)
    return names


def judge_shared(shared):
    """Words ascending, with cell sorts and numbers of cells."""
    need_tuple(shared, 8, (0,))
    last = ""
    for number, block in enumerate(shared):
        place = (0, number)
        need(is_tuple_of(block, 3), place)
        word, sort, many = block
        need(is_word(word) and word > last, place + (0,))
        need(is_cell_sort(sort), place + (1,))
        need(is_number_in(many, 1, 16), place + (2,))
        last = word


def judge_locks(locks):
    """Words ascending."""
    need_tuple(locks, 4, (1,))
    last = ""
    for number, word in enumerate(locks):
        need(is_word(word) and word > last, (1, number))
        last = word


def judge_head(functions, number, function):
    """A function but for its body."""
    place = (2, number)
    need(is_tuple_of(function, 6), place)
    word, params, own, blocks, result, _ = function
    need(is_word(word) and word not in [known[0] for known in functions[:number]], place + (0,))
    taken = []
    judge_locals(params, 6, taken, place + (1,))
    judge_locals(own, 8, taken, place + (2,))
    judge_blocks(blocks, taken, place + (3,))
    need(is_sort(result) or is_one_of(result, ("none",)), place + (4,))


def judge_locals(rows, most, taken, place):
    """Params or locals; their words are added to those taken."""
    need_tuple(rows, most, place)
    for number, row in enumerate(rows):
        here = place + (number,)
        need(is_tuple_of(row, 2), here)
        need(is_word(row[0]) and row[0] not in taken, here + (0,))
        need(is_sort(row[1]), here + (1,))
        taken.append(row[0])


def judge_blocks(rows, taken, place):
    """The local blocks of a function."""
    need_tuple(rows, 3, place)
    for number, row in enumerate(rows):
        here = place + (number,)
        need(is_tuple_of(row, 3), here)
        need(is_word(row[0]) and row[0] not in taken, here + (0,))
        need(is_cell_sort(row[1]), here + (1,))
        need(is_number_in(row[2], 1, 8), here + (2,))
        taken.append(row[0])


def judge_threads(threads, names):
    """Words of functions without params."""
    need_tuple(threads, 4, (3,))
    for number, word in enumerate(threads):
        place = (3, number)
        need(is_word(word) and word in names.functions, place)
        need(names.heads[names.functions[word]][1] == (), place)
