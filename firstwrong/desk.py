"""The desk: a session that is spoken to by lines."""

from firstwrong.errors import BadNumber, BadTerm, NotNow
from firstwrong.journals import journal
from firstwrong.pasts import wrong_of
from firstwrong.sessions import Session
from firstwrong.terms import DIGITS, deed_of_text, is_term, text_of_deed, text_told
from firstwrong.ways import least_way

MOST_FIGURES = 10


class Desk:
    """Says what a session tells, line by line."""

    def __init__(self, start, story, each):
        self.session = Session(start, story, each)

    def say(self, line):
        """The answer to a line."""
        if not isinstance(line, str):
            return ("what",)
        if line in ("undo", "redo"):
            return self.answered(line, None)
        if line in ANSWERS:
            answer = ANSWERS[line]
            found = answer(self.session)
            return tuple(found) if found != [] else ("nothing",)
        numbers = numbers_of_way(line)
        if numbers is not None:
            return way_told(self.session, numbers[0], numbers[1])
        try:
            deed = deed_of_text(self.session.program, line)
        except BadTerm:
            return ("what",)
        return self.answered("do", deed)

    def answered(self, word, deed):
        """Does a deed, takes one back, or does it again; where the session stands then."""
        session = self.session
        try:
            if word == "undo":
                session.undo()
            elif word == "redo":
                session.redo()
            else:
                session.do(deed)
        except NotNow as refused:
            return (f"cannot {refused.why}",)
        return (f"at {session.branch} {session.place}",)


def numbers_of_way(line):
    """The branch and place of a line "way BRANCH PLACE"; None if it is none."""
    parts = line.split(" ")
    if len(parts) != 3 or parts[0] != "way" or not all([is_figures(part) for part in parts[1:]]):
        return None
    return (int(parts[1]), int(parts[2]))


def is_figures(text):
    """A number in digits without needless zeros."""
    if not 1 <= len(text) <= MOST_FIGURES or not all([sign in DIGITS for sign in text]):
        return False
    return text == "0" or text[0] != "0"


def way_told(session, branch, place):
    """The texts of the moves to a branch and place."""
    try:
        moves = least_way(session, branch, place)
    except BadNumber:
        return ("cannot number",)
    if moves == []:
        return ("nothing",)
    return tuple([text_of_deed(move) for move in moves])


def say_where(session):
    """Where the session stands."""
    return [f"at {session.branch} {session.place} of {session.past(session.branch).length}"]


def say_wrong(session):
    """What goes wrong in the present branch."""
    told = wrong_of(session.past(session.branch))
    if told is None:
        return ["clean"]
    deed, thread, word = told
    return [f"wrong {deed} {thread} {word}"]


def say_told(session):
    """What each look shows."""
    return [f"{number} {text_shown(thing)}" for number, thing in session.told()]


def text_shown(thing):
    """What a look shows as a text; "?" if it is no term."""
    return text_told(thing) if is_term(thing) else "?"


def say_stops(session):
    """Each stop."""
    return [f"{number} {text_told(stop)}" for number, stop in session.stops()]


def say_looks(session):
    """Each look."""
    return [f"{number} {text_told(look)}" for number, look in session.looks()]


def say_marks(session):
    """Each mark."""
    return [f"{word} {branch} {place}" for word, (branch, place) in session.marks().items()]


def say_branches(session):
    """Each branch, but for the first one with its parent, its fork and its deed."""
    found = ["0"]
    for number, (parent, fork, change) in enumerate(session.branches()):
        if number > 0:
            found.append(f"{number} {parent} {fork} {text_of_deed(change)}")
    return found


def say_journal(session):
    """The present deeds."""
    return journal(session)


ANSWERS = {"where": say_where, "wrong": say_wrong, "told": say_told, "stops": say_stops, "looks": say_looks,
           "marks": say_marks, "branches": say_branches, "journal": say_journal}
