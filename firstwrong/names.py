"""What the words of a program stand for: locals, blocks, functions, locks."""


class Names:
    """Tables from words to numbers and sorts, for one program or head.

    functions are sextuples of a tree or quintuples of a head: what is read
    of them stands at the same places in both.
    """

    def __init__(self, shared, locks, functions):
        self.heads = functions
        self.shared = {}
        for slot, (word, sort, _) in enumerate(shared):
            self.shared[word] = (slot, sort)
        self.locks = {word: number for number, word in enumerate(locks)}
        self.functions = {head[0]: number for number, head in enumerate(functions)}
        self.locals = [locals_of(head) for head in functions]
        self.blocks = [blocks_of(head) for head in functions]


def locals_of(head):
    """From each param and local to its place and sort."""
    return {word: (place, sort) for place, (word, sort) in enumerate(head[1] + head[2])}


def blocks_of(head):
    """From each block of the function to its place and sort."""
    return {word: (place, sort) for place, (word, sort, _) in enumerate(head[3])}
