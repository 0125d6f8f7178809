"""Texts of programs read line by line: what each line adds to the program."""

from firstwrong.bodies import MOST_BODIES, MOST_NODES
from firstwrong.parts import add_expression, expressions_of
from firstwrong.textdrafts import Draft, Sorter, words_in
from firstwrong.textforms import WrongLine, form_in_body, form_in_head, form_outside
from firstwrong.trees import Program

MOST = {"shared": 8, "lock": 4, "function": 12, "thread": 4, "local": 8, "block": 3}


def need(holds, reason):
    """A line that is wrong is told by its reason."""
    if not holds:
        raise WrongLine(reason)


class Opened:
    """A block that is open: a head, a body, or the body of an "if" or "while".

    kind is "head", "body", "if" (its first body), "else" (its second one) or
    "while"; tested is the expression, one_body the first body of an "if".
    """

    def __init__(self, kind, tested):
        self.kind = kind
        self.tested = tested
        self.one_body = ()
        self.statements = []

    def statement_whole(self):
        """The statement whose bodies are all read."""
        statements = tuple(self.statements)
        if self.kind == "while":
            return ("while", self.tested, statements)
        if self.kind == "if":
            return ("if", self.tested, statements, ())
        return ("if", self.tested, self.one_body, statements)


class TextReader:
    """Reads lines; one that is wrong raises WrongLine and changes nothing.

    shared tells sorts and numbers of cells by words; opened are the blocks
    that are open, begins the lines at which statements begin.
    """

    def __init__(self):
        self.shared = {}
        self.locks = []
        self.drafts = []
        self.threads = []
        self.opened = []
        self.draft = None
        self.begins = []

    def read_line(self, number, line):
        """One line that is not passed over."""
        if self.opened == []:
            self.outside(form_outside(line))
        elif self.opened[-1].kind == "head":
            self.in_head(form_in_head(line))
        else:
            told = form_in_body(line, self.opened[-1].kind)
            if told[0] == "end":
                self.close()
            elif told[0] == "else":
                self.turn()
            else:
                self.statement_read(number, told)

    def found_draft(self, word):
        """The function of this word, None if there is none."""
        found = [draft for draft in self.drafts if draft.word == word]
        return found[0] if found != [] else None

    def outside(self, told):
        """A line in no block."""
        kind, word = told[:2]
        if kind == "shared":
            need(word not in self.shared, "word")
            need(len(self.shared) < MOST[kind], "many")
            self.shared[word] = told[2:]
        elif kind == "lock":
            need(word not in self.locks, "word")
            need(len(self.locks) < MOST[kind], "many")
            self.locks.append(word)
        elif kind == "function":
            self.open_head(word, told[2], told[3])
        elif kind == "body":
            draft = self.found_draft(word)
            need(draft is not None and not draft.done, "word")
            draft.done = True
            self.draft = draft
            self.opened.append(Opened("body", None))
        else:
            draft = self.found_draft(word)
            need(draft is not None and draft.params == (), "word")
            need(len(self.threads) < MOST[kind], "many")
            self.threads.append(word)

    def open_head(self, word, params, result):
        """The first line of a head."""
        words = [param[0] for param in params]
        need(self.found_draft(word) is None and len(set(words)) == len(words), "word")
        need(len(self.drafts) < MOST["function"] and len(params) <= 6, "many")
        self.draft = Draft(word, params, result)
        self.drafts.append(self.draft)
        self.opened.append(Opened("head", None))

    def in_head(self, told):
        """A line in a head."""
        if told[0] == "end":
            self.close()
            return
        need(not self.draft.has_word(told[1]), "word")
        if told[0] == "local":
            need(len(self.draft.own) < MOST["local"], "many")
            self.draft.add_local(told[1], told[2])
        else:
            need(len(self.draft.blocks) < MOST["block"], "many")
            self.draft.add_block(told[1], told[2], told[3])

    def close(self):
        """The block that was opened last ends."""
        opened = self.opened.pop()
        if opened.kind == "body":
            draft = self.draft
            draft.statements = tuple(opened.statements)
        elif opened.kind != "head":
            self.opened[-1].statements.append(opened.statement_whole())

    def turn(self):
        """The first body of an "if" ends, the second one begins."""
        opened = self.opened[-1]
        opened.kind = "else"
        opened.one_body = tuple(opened.statements)
        opened.statements = []

    def statement_read(self, number, told):
        """A line at which a statement begins."""
        self.look_up(told)
        sorter = Sorter({word: row[0] for word, row in self.shared.items()}, self.draft)
        statement = self.put(sorter, told)
        begins = statement[0] in ("if", "while")
        draft = self.draft
        count = draft.count + self.count_nodes(statement)
        need(count <= MOST_NODES, "many")
        need(not begins or len(self.opened) < MOST_BODIES, "many")
        draft.count = count
        self.begins.append((number, self.drafts.index(draft), self.place_now()))
        if begins:
            self.opened.append(Opened(statement[0], statement[1]))
        else:
            self.opened[-1].statements.append(statement)

    def look_up(self, told):
        """Refuses words that name nothing."""
        word = told[0]
        if word in ("take", "leave"):
            need(told[1] in self.locks, "word")
            return
        if word in ("let", "make", "ask", "call"):
            # Only a "call" may have no local.
            need(told[1] in self.draft.sorts or told[1] == "", "word")
        if word == "call":
            need(self.found_draft(told[2]) is not None, "word")
        for expression in expressions_of(told):
            for kind, named in words_in(expression):
                tables = {"local": self.draft.sorts, "shared": self.shared, "block": self.draft.cells}
                need(named in tables[kind], "word")

    def put(self, sorter, told):
        """The statement with its expressions in their last form; bodies are not there yet."""
        word = told[0]
        if word in ("take", "leave"):
            return told
        if word == "let":
            return (word, told[1], sorter.wanted(told[2], self.draft.sorts[told[1]]))
        if word == "store":
            pointer, sort = sorter.pointer(told[1])
            return (word, pointer, sorter.wanted(told[2], sort))
        if word == "make":
            need(self.draft.sorts[told[1]] == ("to", told[2]), "sort")
            return told[:3] + (sorter.wanted(told[3], "int"),)
        if word == "ask":
            need(self.draft.sorts[told[1]] == "int", "sort")
            return told
        if word == "call":
            return told[:3] + (self.call_parts(sorter, told),)
        if word == "return":
            need((len(told) == 1) == (self.draft.result == "none"), "sort")
            return (word,) + tuple([sorter.wanted(part, self.draft.result) for part in told[1:]])
        return (word, sorter.wanted(told[1], "pointer" if word == "away" else "int"))

    def call_parts(self, sorter, told):
        """The expressions of a "call", which must be as the params."""
        _, local, word, parts = told
        draft = self.found_draft(word)
        need(len(parts) == len(draft.params), "sort")
        need(local == "" or self.draft.sorts[local] == draft.result, "sort")
        return tuple([sorter.wanted(part, sort) for part, (_, sort) in zip(parts, draft.params)])

    def count_nodes(self, statement):
        """How many nodes a statement's line has."""
        found = []
        for expression in expressions_of(statement):
            add_expression(found, (), expression)
        return 1 + len(found)

    def place_now(self):
        """The place of the statement that begins now."""
        found = ()
        for opened in self.opened:
            if opened.kind != "body":
                found = found + (3 if opened.kind == "else" else 2,)
            found = found + (len(opened.statements),)
        return found

    def program_read(self):
        """The program of all that was read; what is open is ended."""
        while self.opened != []:
            self.close()
        shared = tuple([(word,) + self.shared[word] for word in sorted(self.shared)])
        functions = tuple([draft.function() for draft in self.drafts])
        return Program((shared, tuple(sorted(self.locks)), functions, tuple(self.threads)))
