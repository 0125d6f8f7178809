"""Lines of texts read by their forms, before any word is looked up.

An expression is read as a pair: how deep it is, and a tree of it in which
"plus" and "minus" stand for what hangs on sorts.
"""

from firstwrong.texttokens import is_figures, is_word_token, tokens_of

MOST_DEEP = 12
PLACES = {"@": "local", "$": "shared", "&": "block"}
# Of each sign with two sides how strongly it binds, and its word.
SIDES = {"or": (0, "or"), "and": (1, "and"), "==": (2, "same"), "<": (2, "below"), "+": (3, "plus"),
         "-": (3, "minus"), "*": (4, "times"), "/": (4, "share"), "rest": (4, "rest")}
COMPARING = 2
LEVELS = 5


class WrongLine(Exception):
    """A line of a text is wrong, for a reason."""

    def __init__(self, reason):
        Exception.__init__(self, "a line of a text is wrong")
        self.reason = reason


def node(word, parts):
    """What a word makes of expressions that were read."""
    return (1 + max([part[0] for part in parts]), (word,) + tuple([part[1] for part in parts]))


class FormReader:
    """Reads the tokens of a line, one after the other."""

    def __init__(self, line):
        tokens = tokens_of(line)
        if tokens is None:
            raise WrongLine("form")
        self.tokens = tokens
        self.spot = 0

    def ahead(self):
        """The next token, "" at the end."""
        return self.tokens[self.spot] if self.spot < len(self.tokens) else ""

    def token(self):
        """The next token, which is read."""
        token = self.ahead()
        self.spot += 1
        return token

    def skip(self, token):
        """Reads this token if it is the next one; whether it is."""
        if self.ahead() != token:
            return False
        self.spot += 1
        return True

    def want(self, token):
        """Reads this token, which must come."""
        if not self.skip(token):
            raise WrongLine("form")

    def finish(self):
        """Refuses more tokens."""
        if self.spot < len(self.tokens):
            raise WrongLine("form")

    def read_word(self):
        """A word."""
        token = self.token()
        if not is_word_token(token):
            raise WrongLine("form")
        return token

    def figures(self, low, high):
        """Figures within bounds."""
        token = self.token()
        if not is_figures(token) or not low <= int(token) <= high:
            raise WrongLine("form")
        return int(token)

    def int_told(self):
        """An int."""
        return -self.figures(1, 2 ** 31) if self.skip("-") else self.figures(0, 2 ** 31 - 1)

    def read_sort(self, most):
        """A sort with at most so many stars."""
        word = self.read_word()
        if word not in ("int", "byte"):
            raise WrongLine("form")
        sort = word
        for _ in range(most):
            if self.skip("*"):
                sort = ("to", sort)
        return sort

    def many_in(self, most):
        """A number of cells in its brackets."""
        self.want("[")
        many = self.figures(1, most)
        self.want("]")
        return many

    def expression(self):
        """An expression, which must not be too deep."""
        deep, tree = self.sides(0)
        if deep > MOST_DEEP:
            raise WrongLine("form")
        return tree

    def sides(self, level):
        """An expression that binds like this level, or more strongly."""
        if level == LEVELS:
            return self.stars()
        nots = 0
        while level == COMPARING and self.skip("not"):
            nots += 1
        found = self.sides(level + 1)
        while self.ahead() in SIDES and SIDES[self.ahead()][0] == level:
            word = SIDES[self.token()][1]
            found = node(word, [found, self.sides(level + 1)])
            if level == COMPARING:
                # What compares does not stand beside another one.
                break
        for _ in range(nots):
            found = node("not", [found])
        return found

    def stars(self):
        """An expression that binds like the * of an "at", or more strongly."""
        stars = 0
        while self.skip("*"):
            stars += 1
        found = self.first_part()
        while self.skip("["):
            found = node("at", [node("plus", [found, self.sides(0)])])
            self.want("]")
        for _ in range(stars):
            found = node("at", [found])
        return found

    def first_part(self):
        """An expression of the strongest, but for brackets behind it."""
        token = self.ahead()
        if is_figures(token) or token == "-":
            return (1, ("int", self.int_told()))
        self.spot += 1
        if token in PLACES:
            return (1, (PLACES[token], self.read_word()))
        if token == "byte" and self.ahead() != "(":
            return (1, ("byte", self.figures(0, 255)))
        if token not in ("(", "int", "byte", "null"):
            raise WrongLine("form")
        if token != "(":
            self.want("(")
        if token == "null":
            found = (1, ("null", self.read_sort(1)))
        else:
            found = self.sides(0)
        self.want(")")
        if token in ("int", "byte"):
            return node("wide" if token == "int" else "low", [found])
        return found

    def expressions(self):
        """Expressions in brackets, with commas between them."""
        self.want("(")
        found = []
        if self.skip(")"):
            return ()
        found.append(self.expression())
        while self.skip(","):
            found.append(self.expression())
        self.want(")")
        return tuple(found)


def form_outside(line):
    """What a line tells in no block."""
    reader = FormReader(line)
    kind = reader.read_word()
    if kind == "shared":
        sort = reader.read_sort(1)
        told = (kind, reader.read_word(), sort, reader.many_in(16))
    elif kind in ("lock", "body", "thread"):
        told = (kind, reader.read_word())
    elif kind == "function":
        told = (kind, reader.read_word(), params_read(reader), reader.read_sort(2) if reader.skip("gives") else "none")
    else:
        raise WrongLine("form")
    reader.finish()
    return told


def params_read(reader):
    """The params of a head."""
    reader.want("(")
    found = []
    while not reader.skip(")"):
        if found != []:
            reader.want(",")
        sort = reader.read_sort(2)
        found.append((reader.read_word(), sort))
    return tuple(found)


def form_in_head(line):
    """What a line tells in a head."""
    reader = FormReader(line)
    if reader.skip("end"):
        told = ("end",)
    else:
        sort = reader.read_sort(2)
        word = reader.read_word()
        told = ("local", word, sort)
        if reader.ahead() == "[":
            if isinstance(sort, tuple) and isinstance(sort[1], tuple):
                raise WrongLine("form")
            told = ("block", word, sort, reader.many_in(8))
    reader.finish()
    return told


def form_in_body(line, kind):
    """What a line tells in a body, kind being that of its block: a statement (with no
    bodies yet), ("else",) or ("end",)."""
    reader = FormReader(line)
    word = reader.ahead()
    if word in ("away", "give", "if", "while"):
        reader.want(word)
        told = (word, reader.expression())
    elif word in ("take", "leave"):
        reader.want(word)
        told = (word, reader.read_word())
    elif word == "return":
        reader.want(word)
        told = (word,) if reader.ahead() == "" else (word, reader.expression())
    elif word == "end" or (word == "else" and kind == "if"):
        told = (reader.token(),)
    elif word == "call":
        told = call_read(reader, "")
    else:
        told = setting_read(reader)
    reader.finish()
    return told


def call_read(reader, local):
    """A "call", from its word on."""
    reader.want("call")
    function = reader.read_word()
    return ("call", local, function, reader.expressions())


def setting_read(reader):
    """A line in which = stands behind a local or an "at"."""
    deep, target = reader.stars()
    if target[0] not in ("local", "at") or deep > MOST_DEEP + 1:
        raise WrongLine("form")
    reader.want("=")
    word = reader.ahead()
    if word in ("make", "ask", "call"):
        if target[0] != "local":
            raise WrongLine("form")
        return made_read(reader, word, target[1])
    if target[0] == "local":
        return ("let", target[1], reader.expression())
    return ("store", target[1], reader.expression())


def made_read(reader, word, local):
    """What a local gets of a "make", "ask" or "call"."""
    if word == "call":
        return call_read(reader, local)
    reader.want(word)
    if word == "make":
        sort = reader.read_sort(1)
        reader.want("[")
        told = (word, local, sort, reader.expression())
        reader.want("]")
        return told
    reader.want("(")
    low = reader.int_told()
    reader.want(",")
    high = reader.int_told()
    reader.want(")")
    if low > high:
        raise WrongLine("form")
    return (word, local, low, high)
