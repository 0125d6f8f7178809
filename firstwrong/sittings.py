"""Where sessions stand, and what their deeds make of it."""

from firstwrong.calls import call_of, over, over_back, return_of
from firstwrong.errors import BadStory, NotNow, TooMany
from firstwrong.pasts import moment_of
from firstwrong.cells import shown_by
from firstwrong.stops import places_of_all
from firstwrong.stories import done_entry
from firstwrong.whatif import lean_past, parted_at, with_course, with_edit, with_input, without_deed

MOST_BRANCHES = 32
MOST_THERE = 16


class Sitting:
    """Where a session stands; nothing of it is ever changed.

    rows has for each branch the tuple (past, parent, fork, change); branch and
    place are the present ones. stopped and looked are the tuples of the pairs
    (number, stop) and (number, look), marked leads from words to pairs (branch,
    place); counted has how many deeds "stop" and "look" were done.
    """

    def __init__(self, rows, branch, place, stopped, looked, marked, counted):
        self.rows = rows
        self.branch = branch
        self.place = place
        self.stopped = stopped
        self.looked = looked
        self.marked = marked
        self.counted = counted
        # The past of the present branch.
        self.base = rows[branch][0]

    def moved(self, branch, place):
        """The same at another branch and place."""
        return Sitting(self.rows, branch, place, self.stopped, self.looked, self.marked, self.counted)

    def with_marks(self, marked):
        """The same with other marks."""
        return Sitting(self.rows, self.branch, self.place, self.stopped, self.looked, marked, self.counted)

    def with_stops(self, stopped, looked, counted):
        """The same with other stops and looks."""
        return Sitting(self.rows, self.branch, self.place, stopped, looked, self.marked, counted)

    def with_branch(self, past, change):
        """The same with one branch more, which is the present one."""
        fork = parted_at(self.base, past)
        row = (past, self.branch, past.length if fork is None else fork, change)
        return Sitting(self.rows + (row,), len(self.rows), self.place, self.stopped, self.looked, self.marked,
                       self.counted)

    def moment_now(self):
        """The moment at the present place."""
        return moment_of(self.base, self.place)[0]

    def shows(self):
        """The pairs of a look's number and what it shows at the present moment."""
        moment = self.moment_now()
        return [(number, shown_by(moment, look)) for number, look in self.looked]


def first_sitting(past):
    """Where a session of a past stands at first."""
    return Sitting(((past, None, None, None),), 0, 0, (), (), {}, (0, 0))


def behind_deed(sitting, deed):
    """Where a session stands behind a deed; NotNow if it cannot be done."""
    action = ACTIONS[deed[0]]
    return action(sitting, deed)


def need(holds, why):
    """Refuses what cannot be done now."""
    if not holds:
        raise NotNow(why)


def go(sitting, place):
    """The sitting at another place of the present branch."""
    return sitting.moved(sitting.branch, place)


def do_on(sitting, deed):
    """One place on."""
    need(sitting.place < sitting.base.length, "end")
    return go(sitting, sitting.place + 1)


def do_back(sitting, deed):
    """One place back."""
    need(sitting.place > 0, "start")
    return go(sitting, sitting.place - 1)


def do_to(sitting, deed):
    """To a place."""
    need(deed[1] <= sitting.base.length, "place")
    return go(sitting, deed[1])


def stopping(sitting):
    """The ascending list of the places at which a stop stops in the present branch."""
    return places_of_all(sitting.base, [stop for _, stop in sitting.stopped])


def do_next(sitting, deed):
    """On to the next stopping place, or to the end."""
    length = sitting.base.length
    need(sitting.place < length, "end")
    return go(sitting, min([place for place in stopping(sitting) if place > sitting.place], default=length))


def do_last(sitting, deed):
    """Back to the last stopping place, or to the start."""
    need(sitting.place > 0, "start")
    return go(sitting, max([place for place in stopping(sitting) if place < sitting.place], default=0))


def go_told(sitting, place):
    """The sitting at a place that a look at calls told, if there is one."""
    need(place is not None, "none")
    return go(sitting, place)


def do_over(sitting, deed):
    """Behind the thread's next step, and what it calls."""
    return go_told(sitting, over(sitting.base, sitting.place, deed[1]))


def do_under(sitting, deed):
    """Ahead of the thread's last step, and what it called."""
    return go_told(sitting, over_back(sitting.base, sitting.place, deed[1]))


def do_out(sitting, deed):
    """Behind the deed with which the thread's frame on top ends."""
    number = return_of(sitting.base, sitting.place, deed[1])
    return go_told(sitting, None if number is None else number + 1)


def do_call(sitting, deed):
    """Ahead of the deed by which the thread's frame on top was begun."""
    return go_told(sitting, call_of(sitting.base, sitting.place, deed[1]))


def do_stop(sitting, deed):
    """One stop more."""
    need(len(sitting.stopped) < MOST_THERE, "many")
    stops, looks = sitting.counted
    return sitting.with_stops(sitting.stopped + ((stops, deed[1]),), sitting.looked, (stops + 1, looks))


def do_look(sitting, deed):
    """One look more."""
    need(len(sitting.looked) < MOST_THERE, "many")
    stops, looks = sitting.counted
    return sitting.with_stops(sitting.stopped, sitting.looked + ((looks, deed[1]),), (stops, looks + 1))


def dropped(pairs, number):
    """The pairs without that of a number."""
    found = tuple([pair for pair in pairs if pair[0] != number])
    need(len(found) < len(pairs), "number")
    return found


def do_drop(sitting, deed):
    """One stop fewer."""
    return sitting.with_stops(dropped(sitting.stopped, deed[1]), sitting.looked, sitting.counted)


def do_hide(sitting, deed):
    """One look fewer."""
    return sitting.with_stops(sitting.stopped, dropped(sitting.looked, deed[1]), sitting.counted)


def do_mark(sitting, deed):
    """The word stands for the present branch and place."""
    others = {word: sitting.marked[word] for word in sitting.marked if word != deed[1]}
    need(len(others) < MOST_THERE, "many")
    return sitting.with_marks({**others, deed[1]: (sitting.branch, sitting.place)})


def do_clear(sitting, deed):
    """The word is no mark any more."""
    need(deed[1] in sitting.marked, "word")
    return sitting.with_marks({word: sitting.marked[word] for word in sitting.marked if word != deed[1]})


def do_goto(sitting, deed):
    """To the branch and place of a mark."""
    need(deed[1] in sitting.marked, "word")
    branch, place = sitting.marked[deed[1]]
    return sitting.moved(branch, place)


def do_branch(sitting, deed):
    """To another branch."""
    need(deed[1] < len(sitting.rows), "number")
    return sitting.moved(deed[1], min(sitting.place, sitting.rows[deed[1]][0].length))


def need_room(sitting):
    """Refuses one branch too many."""
    need(len(sitting.rows) < MOST_BRANCHES, "many")


def do_edit(sitting, deed):
    """A branch with an edit ahead of the next deed."""
    need_room(sitting)
    past, place = sitting.base, sitting.place
    need(done_entry(sitting.moment_now(), past.story[0], deed[1]) is not None, "idle")
    try:
        found, _ = with_edit(past, place, deed[1])
    except BadStory:
        raise NotNow("story") from None
    return go(sitting.with_branch(found, deed), place + 1)


def do_input(sitting, deed):
    """A branch with another input."""
    need_room(sitting)
    need(deed[1] < len(sitting.base.story[0]), "number")
    found, _ = with_input(sitting.base, deed[1], deed[2])
    return back_to_fork(sitting.with_branch(found, deed))


def back_to_fork(sitting):
    """The sitting at the present branch's fork, if its place is behind it."""
    return go(sitting, min(sitting.place, sitting.rows[sitting.branch][2]))


def do_course(sitting, deed):
    """A branch with another course from the next deed on."""
    need_room(sitting)
    try:
        found, _ = with_course(sitting.base, sitting.place, deed[1])
    except BadStory:
        raise NotNow("story") from None
    return sitting.with_branch(found, deed)


def do_without(sitting, deed):
    """A branch without the entry of a deed."""
    need_room(sitting)
    need(deed[1] < sitting.base.length, "number")
    return back_to_fork(sitting.with_branch(without_deed(sitting.base, deed[1]), deed))


def do_lean(sitting, deed):
    """A branch of those entries alone by which the present one goes wrong."""
    need_room(sitting)
    try:
        found = lean_past(sitting.base)
    except TooMany:
        raise NotNow("length") from None
    return go(sitting.with_branch(found, deed), found.length)


ACTIONS = {"on": do_on, "back": do_back, "to": do_to, "next": do_next, "last": do_last, "over": do_over,
           "under": do_under, "out": do_out, "call": do_call, "stop": do_stop, "look": do_look,
           "drop": do_drop, "hide": do_hide, "mark": do_mark, "clear": do_clear, "goto": do_goto,
           "branch": do_branch, "edit": do_edit, "input": do_input, "course": do_course,
           "without": do_without, "lean": do_lean}
