"""Films: runs with thinned pictures, and whole runs shown backwards."""

from firstwrong.errors import BadFilm, BadNumber, TooMany
from firstwrong.kinds import is_number_in
from firstwrong.moments import begun
from firstwrong.plans import MOST_DONE, back_plan, fewest, need_pictures, times_done
from firstwrong.steps import step_of
from firstwrong.thinning import need_few, places_kept, thin_plan, way_to
from firstwrong.trees import need_program
from firstwrong.turns import need_inputs, need_thread, need_weaving


class Film:
    """A run that goes on; film_begun and film_on make it."""

    def __init__(self, program, inputs, pictures, weaving, moment, kept):
        self.program = program
        self.inputs = inputs
        self.pictures = pictures
        self.weaving = weaving
        self.moment = moment
        self.kept = kept


def need_film(film):
    """Refuses what is no Film."""
    if not isinstance(film, Film):
        raise BadFilm("a film is wanted")


def film_begun(program, inputs, pictures):
    """The film of no steps."""
    need_program(program)
    need_inputs(inputs)
    need_pictures(pictures)
    return Film(program, tuple(inputs), pictures, (), begun(program), {})


def film_on(film, thread):
    """The film one step on."""
    need_film(film)
    need_thread(film.program, thread)
    after, _ = step_of(film.moment, thread, film.inputs)
    weaving = film.weaving + (thread,)
    known = {**film.kept, len(weaving): after}
    kept = {place: known[place] for place in places_kept(len(weaving), film.pictures)}
    return Film(film.program, film.inputs, film.pictures, weaving, after, kept)


def film_at(film, place):
    """A moment of the film, and how many steps were done for it."""
    need_film(film)
    if not is_number_in(place, 0, len(film.weaving)):
        raise BadNumber("place")
    if place == len(film.weaving):
        return (film.moment, 0)
    nearest = max([0] + [kept for kept in film.kept if kept <= place])
    moment = begun(film.program) if nearest == 0 else film.kept[nearest]
    for thread in film.weaving[nearest:place]:
        moment, _ = step_of(moment, thread, film.inputs)
    return (moment, place - nearest)


class Walker:
    """Does the acts of a plan with moments."""

    def __init__(self, program, inputs, weaving):
        self.inputs = inputs
        self.weaving = weaving
        self.hand = (0, begun(program))
        self.kept = {0: self.hand}
        self.shown = []

    def walk(self, acts):
        """Does these acts, one after the other."""
        for act in acts:
            if act[0] == "step":
                number, moment = self.hand
                self.hand = (number + 1, step_of(moment, self.weaving[number], self.inputs)[0])
            elif act[0] == "keep":
                self.kept[act[1]] = self.hand
            elif act[0] == "take":
                self.hand = self.kept[act[1]]
            else:
                self.shown.append(self.hand[1])


def film_back(film):
    """All moments of the film, the last one first, and how often each step is done for it."""
    need_film(film)
    steps = len(film.weaving)
    need_few(steps, film.pictures)
    plan = thin_plan(steps, film.pictures)
    # The film went the first way already, and holds what was kept on it.
    first, held = way_to(steps, film.pictures)
    walker = Walker(film.program, film.inputs, film.weaving)
    for picture, place in held.items():
        walker.kept[picture] = (place, film.kept[place])
    walker.hand = (steps, film.moment)
    walker.walk(plan[len(first):])
    return (walker.shown, times_done(steps, film.pictures, plan))


def all_back(program, inputs, weaving, pictures):
    """All moments of a run, the last one first, and how many steps were done for it."""
    need_program(program)
    need_inputs(inputs)
    need_weaving(program, weaving)
    need_pictures(pictures)
    done = fewest(len(weaving), pictures)
    if done > MOST_DONE:
        raise TooMany(MOST_DONE)
    walker = Walker(program, inputs, weaving)
    walker.walk(back_plan(len(weaving), pictures))
    return (walker.shown, done)
