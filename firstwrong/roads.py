"""Who made it so: accounts of wrong deeds, and the roads by which values came."""

from firstwrong.errors import BadNumber, BadSight, NotNow
from firstwrong.kinds import is_number_in, is_same, is_tuple_of
from firstwrong.sights import is_sight, seen
from firstwrong.steps import run
from firstwrong.stepviews import StepView, pointers_of
from firstwrong.spots import block_in


def account_of(moment, inputs, weaving):
    """Which steps made a run's last step go wrong; None if it goes right."""
    moments, traces = run(moment, inputs, weaving)
    if len(weaving) == 0 or moments[-1].wrong is None:
        return None
    thread, word = moments[-1].wrong
    teller = Teller(moments, traces, weaving)
    return (("did", len(weaving) - 1),) + teller.account(StepView(moments[-2], thread), word)


def deed_parts(view):
    """The parts of what goes wrong: of the deed itself if no expression does."""
    return view.got if view.fine else view.rows[-1][-1][1]


class Teller:
    """Tells of a run which step did something last."""

    def __init__(self, moments, traces, weaving):
        self.moments = moments
        self.traces = traces
        self.weaving = weaving

    def last_step(self, does):
        """The last step, but for the wrong one, of which this holds; None if there is none."""
        for step in range(len(self.weaving) - 2, -1, -1):
            if does(step):
                return step
        return None

    def account(self, view, word):
        """The account of a wrong word behind ("did", last step)."""
        if word == "unset":
            return (("left", self.left_unset(view)),)
        if word == "lock":
            cell = ("lock", view.does[1])
            return (("lock", self.last_step(lambda step: cell in self.traces[step][1])),)
        if word == "deep":
            return tuple([("called", self.began(view.thread, depth)) for depth in range(1, view.depth + 1)])
        if word in ("gone", "beyond", "away", "unlike"):
            return self.told_of_blocks(view, word)
        return ()

    def told_of_blocks(self, view, word):
        """The account of the blocks that are looked at."""
        names = [pointer[:2] for pointer in pointers_of(deed_parts(view))]
        if word == "gone":
            gone = [name for name in names if block_in(view.moment, name[0], name[1]) is None][0]
            return (("made", self.changed(gone, True)), ("gave", self.changed(gone, False)))
        many = 2 if word == "unlike" else 1
        return tuple([("made", self.changed(name, True)) for name in names[:many]])

    def changed(self, name, there):
        """The step by which a block came, or went."""
        return self.last_step(lambda step: self.is_there(step, name) != there
                              and self.is_there(step + 1, name) == there)

    def is_there(self, place, name):
        """Whether a block is there at a moment."""
        return block_in(self.moments[place], name[0], name[1]) is not None

    def began(self, thread, depth):
        """The step by which the frame of this depth began."""
        return self.last_step(lambda step: self.is_begun(step, thread, depth))

    def is_begun(self, step, thread, depth):
        """Whether a step begins the frame of this depth."""
        return self.height(step, thread) < depth <= self.height(step + 1, thread)

    def height(self, place, thread):
        """How many frames a thread's stack has at a moment."""
        return len(self.moments[place].stacks[thread])

    def left_unset(self, view):
        """The step that left unset what is unset now: a local, or a cell."""
        expression, parts, _ = view.rows[-1][-1]
        if expression[0] == "at":
            return self.changed(pointers_of(parts)[0][:2], True)
        thread, depth, word = view.thread, view.depth, expression[1]
        return self.last_step(lambda step: self.is_begun(step, thread, depth)
                              or self.left_target(step, thread, depth, word))

    def left_target(self, step, thread, depth, word):
        """Whether a step ended a frame without a value for this local."""
        if self.weaving[step] != thread or self.height(step, thread) != depth + 1:
            return False
        _, todo, _, _, target = self.moments[step].stacks[thread][-1]
        return todo == () and target == word


def is_spot(program, sight):
    """Whether a road can lead to this: a local or a cell."""
    return is_sight(program, sight) and sight[0] in ("local", "cell")


def road_of(moment, inputs, weaving, place, sight):
    """The road by which a value came."""
    moments, traces = run(moment, inputs, weaving)
    if not is_number_in(place, 0, len(weaving)):
        raise BadNumber("place")
    if not is_spot(moment.program, sight):
        raise BadSight("a local or a cell is wanted")
    if seen(moments[place], sight) is None:
        raise NotNow("unset")
    return road_told(moments, traces, weaving, place, sight)


def road_told(moments, traces, weaving, place, sight):
    """The same for what surely is right."""
    links = [(place, sight)]
    while sight is not None and place > 0:
        step = place - 1
        views = None
        while step >= 0 and views is None:
            views = writing(moments, traces, weaving, step, sight)
            step -= 1
        if views is None:
            links.append((0, sight))
            place = 0
        else:
            place = step + 1
            sight = sight_copied(views)
            links.append((place, sight))
    return tuple(links)


def writing(moments, traces, weaving, step, sight):
    """What a step tells if it wrote the local or cell: a pair of its view and the
    place of the expression written (None without one). None if it did not write it."""
    if moments[step + 1].wrong is not None:
        return None
    if sight[0] == "cell":
        return (StepView(moments[step], weaving[step]), 1) if sight in traces[step][1] else None
    _, thread, depth, word = sight
    if weaving[step] != thread or abs(len(moments[step].stacks[thread]) - depth) > 1:
        return None
    view = StepView(moments[step], thread)
    place = place_written(view, depth, word)
    return None if place == () else (view, place)


def place_written(view, depth, word):
    """Which of a step's expressions it wrote to the local of this word and depth;
    None if it wrote another value, () if it did not write the local."""
    did = view.next_word()
    if view.depth == depth and did in ("let", "ask", "make") and view.does[1] == word:
        return 0 if did == "let" else None
    if view.depth == depth + 1 and did == "return" and view.frame[4] == word:
        return 0 if view.rows != [] else None
    if view.depth == depth - 1 and did == "call":
        program = view.moment.program
        # Its locals are unset: who sees a value in one meets the step that set it first.
        params = program.functions[program.names.functions[view.does[2]]][1]
        words = [param for param, _ in params]
        return words.index(word) if word in words else ()
    return ()


def sight_copied(told):
    """The local or cell that the expression written is; None if it is neither."""
    view, place = told
    if place is None:
        return None
    expression, parts, _ = view.rows[place][-1]
    if expression[0] == "local":
        return ("local", view.thread, view.depth, expression[1])
    if expression[0] == "at":
        return ("cell",) + parts[0][1]
    return None


def is_road(moment, inputs, weaving, thing):
    """Whether any value is a road of this run."""
    moments, traces = run(moment, inputs, weaving)
    if not isinstance(thing, tuple) or thing == () or not is_tuple_of(thing[0], 2):
        return False
    place, sight = thing[0]
    if not is_number_in(place, 0, len(weaving)) or not is_spot(moment.program, sight):
        return False
    if seen(moments[place], sight) is None:
        return False
    return is_same(thing, road_told(moments, traces, weaving, place, sight))
