"""Sessions: one person's sitting with a recorded run."""

from firstwrong.cells import is_look_of
from firstwrong.errors import BadDeed, BadNumber, BadSession, NotNow
from firstwrong.kinds import is_int, is_number_in, is_word
from firstwrong.pasts import Past
from firstwrong.sittings import behind_deed, first_sitting
from firstwrong.spots import is_thread_of
from firstwrong.stops import is_stop_of
from firstwrong.stories import MOST_ENTRIES, is_edit_of, is_entry
from firstwrong.trees import need_program

MOST_COUNT = 10 ** 9
# What is told behind the word of a deed.
FORMS = {"on": (), "back": (), "next": (), "last": (), "lean": (), "to": ("count",), "over": ("thread",),
         "under": ("thread",), "out": ("thread",), "call": ("thread",), "stop": ("stop",), "look": ("look",),
         "drop": ("count",), "hide": ("count",), "mark": ("word",), "clear": ("word",), "goto": ("word",),
         "edit": ("edit",), "input": ("count", "int"), "course": ("course",), "without": ("count",),
         "branch": ("count",)}


def is_deed(program, thing):
    """Whether any value is a deed of a program."""
    need_program(program)
    if not isinstance(thing, tuple) or thing == () or not isinstance(thing[0], str) or thing[0] not in FORMS:
        return False
    forms = FORMS[thing[0]]
    if len(thing) != len(forms) + 1:
        return False
    return all([is_told(program, form, part) for form, part in zip(forms, thing[1:])])


def is_told(program, form, thing):
    """Whether any value may stand where a deed tells this."""
    if form == "count":
        return is_number_in(thing, 0, MOST_COUNT)
    if form == "int":
        return is_int(thing)
    if form == "word":
        return is_word(thing)
    if form == "thread":
        return is_thread_of(program, thing)
    if form == "stop":
        return is_stop_of(program, thing)
    if form == "look":
        return is_look_of(program, thing)
    if form == "edit":
        return is_edit_of(program, thing)
    if not isinstance(thing, tuple) or len(thing) > MOST_ENTRIES:
        return False
    return all([is_entry(program, entry) for entry in thing])


class Session:
    """A sitting with a past, its branches, stops, looks and marks.

    did has the deeds done, those undone behind them; sittings tells where the
    session stood ahead of each of them and behind the last one; now is how many
    of them are present.
    """

    def __init__(self, start, story, each):
        past = Past(start, story, each)
        self.start = start
        self.story = story
        self.each = each
        self.program = past.program
        self.did = []
        self.sittings = [first_sitting(past)]
        self.now = 0
        self.branch = 0
        self.place = 0

    def __eq__(self, other):
        if not isinstance(other, Session):
            return False
        if self.start != other.start or self.story != other.story or self.each != other.each:
            return False
        return self.now == other.now and self.did == other.did

    def stand(self, now):
        """So many deeds are the present ones."""
        self.now = now
        self.branch = self.sittings[now].branch
        self.place = self.sittings[now].place

    def do(self, deed):
        """Does a deed."""
        if not is_deed(self.program, deed):
            raise BadDeed("a deed of the session's program is wanted")
        after = behind_deed(self.sittings[self.now], deed)
        self.did = self.did[:self.now] + [deed]
        self.sittings = self.sittings[:self.now + 1] + [after]
        self.stand(self.now + 1)

    def undo(self):
        """Takes the last of the present deeds back."""
        if self.now == 0:
            raise NotNow("undo")
        self.stand(self.now - 1)

    def redo(self):
        """Does the first one undone again."""
        if self.now == len(self.did):
            raise NotNow("redo")
        self.stand(self.now + 1)

    def deeds(self):
        """The list of the present deeds."""
        return self.did[:self.now]

    def undone(self):
        """The list of the deeds taken back, the one that redo would do first."""
        return self.did[self.now:]

    def past(self, number):
        """A branch."""
        rows = self.sittings[self.now].rows
        if not is_number_in(number, 0, len(rows) - 1):
            raise BadNumber("number")
        return rows[number][0]

    def branches(self):
        """For each branch its parent, its fork, and the deed by which it was made."""
        return [row[1:] for row in self.sittings[self.now].rows]

    def stops(self):
        """The pairs of a number and a stop."""
        return list(self.sittings[self.now].stopped)

    def looks(self):
        """The pairs of a number and a look."""
        return list(self.sittings[self.now].looked)

    def marks(self):
        """From the words that are marks to the pairs of their branch and place."""
        marked = self.sittings[self.now].marked
        return {word: marked[word] for word in sorted(marked)}

    def moment(self):
        """The moment at the present place."""
        return self.sittings[self.now].moment_now()

    def told(self):
        """The pairs of a look's number and what it shows at the present moment."""
        return self.sittings[self.now].shows()


def need_session(session):
    """Refuses what is no Session."""
    if not isinstance(session, Session):
        raise BadSession("a session is wanted")
