"""At which line of a program's text a run goes wrong."""

from firstwrong.moments import begun
from firstwrong.programtexts import right_text
from firstwrong.steps import need_run, step_of
from firstwrong.stepviews import StepView


def wrong_line(text, inputs, weaving):
    """(line, thread, word) of the first step that goes wrong; None without one."""
    reader = right_text(text)
    moment = begun(reader.program_read())
    need_run(moment, inputs, weaving)
    lines = {(function, place): line for line, function, place in reader.begins}
    walkers = [Walker(moment, thread) for thread in range(len(moment.stacks))]
    for thread in weaving:
        view = StepView(moment, thread) if moment.stacks[thread] != () else None
        moment, _ = step_of(moment, thread, inputs)
        if moment.wrong is not None:
            return (lines[(view.frame[0], walkers[thread].places[-1])],) + moment.wrong
        walkers[thread].walk(view)
    return None


class Walker:
    """Where a thread is in the function of each of its frames; None at an end."""

    def __init__(self, moment, thread):
        function = moment.stacks[thread][0][0]
        self.program = moment.program
        self.places = [self.first_place(function)]

    def body(self, function):
        """The body of a function."""
        return self.program.functions[function][5]

    def first_place(self, function):
        """Where a function begins."""
        return (0,) if self.body(function) != () else None

    def walk(self, view):
        """Goes on by the step that a view told."""
        word = view.next_word()
        if word == "return":
            self.places.pop()
            return
        body = self.body(view.frame[0])
        self.places[-1] = place_behind(body, self.places[-1], view)
        if word == "call":
            self.places.append(self.first_place(self.program.names.functions[view.does[2]]))


def place_behind(body, place, view):
    """Where a frame is behind a step of its statement."""
    statement = view.does
    if statement[0] not in ("if", "while"):
        return next_place(body, place)
    holds = view.got[0][1] != 0
    spot = 2 if holds else 3
    chosen = statement[spot] if spot < len(statement) else ()
    if chosen != ():
        return place + (spot, 0)
    return place if statement[0] == "while" and holds else next_place(body, place)


def next_place(body, place):
    """What comes behind a statement; None at the end of the function's body."""
    rows = [body]
    # The bodies within one another that lead to the statement.
    for number, spot in zip(place[::2], place[1::2]):
        rows.append(rows[-1][number][spot])
    while rows != []:
        if place[-1] + 1 < len(rows.pop()):
            return place[:-1] + (place[-1] + 1,)
        place = place[:-2]
        if rows != [] and rows[-1][place[-1]][0] == "while":
            return place
    return None
