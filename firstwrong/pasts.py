"""Pasts: what comes of a start when the entries of a story are done."""

from firstwrong.errors import BadNumber, BadPast, BadStory
from firstwrong.kinds import is_number_in, is_row
from firstwrong.moments import need_moment
from firstwrong.steps import step_of
from firstwrong.stories import done_entry, edited_of, is_story
from firstwrong.treesteps import todo_op
from firstwrong.turns import need_thread, why_not

MOST_EACH = 256


class Grown:
    """A story that begins as that of a past: what is shared is not done again.

    place tells how many deeds, entries how many entries are shared; moment is the
    one behind them, which nothing looks at if there are no more entries.
    """

    def __init__(self, story, base, place, entries, moment):
        self.story = story
        self.base = base
        self.place = place
        self.entries = entries
        self.moment = moment


class Past:
    """The deeds of a story from a start on.

    kept has the moments whose places are multiples of each; did tells each
    deed as deed_at does, entries its place in the course; gifts are the ints
    given, heights and waiting tell of each place how many frames each thread
    has, and which threads are held; wants leads from inputs to the entry that
    first wants them and how many deeds are ahead of it.
    """

    def __init__(self, start, story, each):
        need_moment(start)
        if not isinstance(story, Grown) and not is_story(start.program, story):
            raise BadStory("a story of the start's program is wanted")
        if not is_number_in(each, 1, MOST_EACH):
            raise BadNumber("each")
        self.start = start
        self.each = each
        self.program = start.program
        self.kept = {}
        self.did = []
        self.entries = []
        self.gifts = []
        self.heights = []
        self.waiting = []
        self.wants = {}
        self.wrong = None
        self.idle = ()
        if isinstance(story, Grown):
            self.story = story.story
            self.take_over(story.base, story.place, story.entries)
            self.do_all(story.moment, story.entries)
        else:
            self.story = story
            self.keep(start)
            self.do_all(start, 0)
        self.length = len(self.did)

    def __eq__(self, other):
        if not isinstance(other, Past):
            return False
        return self.start == other.start and self.story == other.story and self.each == other.each

    def take_over(self, base, first, entries):
        """What a past tells of its first deeds, which so many entries do."""
        self.kept = {place: base.kept[place] for place in base.kept if place <= first}
        self.did = base.did[:first]
        self.entries = base.entries[:first]
        self.gifts = [gift for gift in base.gifts if gift[0] < first]
        self.heights = base.heights[:first + 1]
        self.waiting = base.waiting[:first + 1]
        self.wants = {number: base.wants[number] for number in base.wants if base.wants[number][0] < entries}
        if base.wrong is not None and base.wrong[0] < first:
            self.wrong = base.wrong
        self.idle = tuple([number for number in base.idle if number < entries])

    def do_all(self, moment, first):
        """Does the entries from one on; those that are idle are told."""
        inputs, course = self.story
        for number in range(first, len(course)):
            entry = course[number]
            self.look_for_wants(moment, number, entry)
            done = done_entry(moment, inputs, entry)
            if done is None:
                self.idle = self.idle + (number,)
                continue
            after, trace = done
            self.entries.append(number)
            self.add_deed(moment, entry, after, trace)
            moment = after
            self.keep(moment)

    def look_for_wants(self, moment, number, entry):
        """Which input an entry wants, be there one or not."""
        if isinstance(entry, tuple) or why_not(self.program.names, moment, entry, todo_op) is not None:
            return
        if todo_op(moment, entry)[0] == "ask" and moment.asked not in self.wants:
            self.wants[moment.asked] = (number, len(self.did))

    def keep(self, moment):
        """What is kept of the moment behind the deeds till now."""
        place = len(self.did)
        if place % self.each == 0:
            self.kept[place] = moment
        threads = range(len(moment.stacks))
        self.heights.append(tuple([len(stack) for stack in moment.stacks]))
        self.waiting.append([thread for thread in threads
                             if why_not(self.program.names, moment, thread, todo_op) == "held"])

    def add_deed(self, moment, entry, after, trace):
        """One deed more."""
        number = len(self.did)
        if trace is None:
            self.did.append((entry, None, None, None, (), () if entry[0] == "local" else (entry[:4],)))
            return
        frame = moment.stacks[entry][-1]
        statement = frame[1][0] if frame[1] != () else None
        asked = self.story[0][moment.asked] if after.asked > moment.asked else None
        self.did.append((entry, frame[0], statement, asked, trace[0], trace[1]))
        if len(after.given) > len(moment.given):
            self.gifts.append((number, entry, after.given[-1]))
        if after.wrong is not None:
            self.wrong = (number,) + after.wrong


def need_past(past):
    """Refuses what is no Past."""
    if not isinstance(past, Past):
        raise BadPast(None)


def need_place(past, place):
    """Refuses what is no place of a past."""
    if not is_number_in(place, 0, past.length):
        raise BadNumber("place")


def redone(past, number, moment):
    """The moment behind a deed, done once more from the moment ahead of it."""
    entry = past.did[number][0]
    if isinstance(entry, tuple):
        return edited_of(moment, entry)
    return step_of(moment, entry, past.story[0])[0]


def moment_of(past, place):
    """A moment, and how many deeds were done once more for it."""
    nearest = place - place % past.each
    moment = past.kept[nearest]
    for number in range(nearest, place):
        moment = redone(past, number, moment)
    return (moment, place - nearest)


def numbers_from(past, first, last, forwards):
    """The numbers of the deeds from the first one on, or from the last one back."""
    if forwards:
        return list(range(first, past.length))
    return list(range(last, -1, -1))


def all_moments(past):
    """The list of all moments, each deed done once more."""
    moments = [past.start]
    for number in range(past.length):
        moments.append(redone(past, number, moments[-1]))
    return moments


def moment_at(past, place):
    """A moment, and how many deeds were done once more for it."""
    need_past(past)
    need_place(past, place)
    return moment_of(past, place)


def deed_at(past, place):
    """What is told of a deed."""
    need_past(past)
    if not is_number_in(place, 0, past.length - 1):
        raise BadNumber("place")
    return past.did[place]


def entries_ahead(past, place):
    """How many entries stand ahead of that of a deed; all at the end."""
    return past.entries[place] if place < past.length else len(past.story[1])


def grown_past(past, place, entries, story):
    """The past of a story that begins with so many entries of a past, by which its deeds up to
    a place are done; and how many deeds were done once more for it."""
    moment, again = (None, 0)
    if entries < len(story[1]):
        moment, again = moment_of(past, place)
    found = Past(past.start, Grown(story, past, place, entries, moment), past.each)
    return (found, again + found.length - place)


def cut_past(past, place):
    """The past of the first deeds alone."""
    need_past(past)
    need_place(past, place)
    inputs, course = past.story
    return Past(past.start, (inputs, tuple([course[number] for number in past.entries[:place]])), past.each)


def rest_past(past, place):
    """The past from a moment on."""
    need_past(past)
    need_place(past, place)
    inputs, course = past.story
    rest = course[entries_ahead(past, place):]
    return Past(moment_of(past, place)[0], (inputs, rest), past.each)


def gone_on(past, inputs, course):
    """The past with more inputs and entries behind its own."""
    need_past(past)
    if not is_row(inputs) or not is_row(course):
        raise BadStory("inputs and entries are lists")
    story = (past.story[0] + tuple(inputs), past.story[1] + tuple(course))
    return Past(past.start, story, past.each)


def asks(past):
    """The triples (deed, thread, int) of the inputs got."""
    need_past(past)
    return [(number, deed[0], deed[3]) for number, deed in enumerate(past.did) if deed[3] is not None]


def gives(past):
    """The triples (deed, thread, int) of the ints given."""
    need_past(past)
    return list(past.gifts)


def wrong_of(past):
    """None, or (deed, thread, word) of the deed that went wrong."""
    need_past(past)
    return past.wrong


def waits(past, thread):
    """The first and last places of the rows of moments at which a thread is held."""
    need_past(past)
    need_thread(past.program, thread)
    return rows_of([thread in threads for threads in past.waiting])


def rows_of(flags):
    """The pairs of the first and the last place of each longest row of what holds."""
    found = []
    for place, flag in enumerate(flags):
        if flag and place > 0 and flags[place - 1]:
            found[-1] = (found[-1][0], place)
        elif flag:
            found.append((place, place))
    return found
