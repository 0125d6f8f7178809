"""Pictures that are thinned while a run goes on, whose end is not known."""

from math import comb

from firstwrong.errors import TooMany
from firstwrong.plans import MOST_DONE, least_times, need_pictures, need_steps, show_back


def greatest_term(left, below):
    """The greatest number of ways to pick so many things that is not above what is left."""
    high = below + 1
    while comb(high, below) <= left:
        high = high * 2
    low = below - 1
    while high - low > 1:
        middle = (low + high) // 2
        if comb(middle, below) <= left:
            low = middle
        else:
            high = middle
    return comb(low, below)


def kept_places(steps, pictures):
    """The numbers of the moments that are kept behind so many steps."""
    need_steps(steps, 10 ** 9)
    need_pictures(pictures)
    return places_kept(steps, pictures)


def places_kept(steps, pictures):
    """The same for what surely is right."""
    found = []
    place = 0
    for below in range(pictures + 1, 1, -1):
        term = greatest_term(steps - place, below)
        if term == 0:
            break
        place += term
        found.append(place)
    return tuple(found)


def way_to(steps, pictures):
    """The acts of the way there, and which place each picture holds behind it."""
    acts = []
    held = {}
    for number in range(1, steps + 1):
        acts.append(("step",))
        places = places_kept(number, pictures)
        if number in places:
            picture = min([k for k in range(1, pictures + 1) if held.get(k, 0) not in places])
            acts.append(("keep", picture))
            held[picture] = number
    places = places_kept(steps, pictures)
    return (acts, {picture: held[picture] for picture in held if held[picture] in places})


def first_way(steps, pictures):
    """The acts that go to a moment and keep its pictures."""
    need_steps(steps, 1000)
    need_pictures(pictures)
    return tuple(way_to(steps, pictures)[0])


def need_few(steps, pictures):
    """Refuses ways on which too many steps might be done."""
    if least_times(steps, pictures) * steps > MOST_DONE:
        raise TooMany(MOST_DONE)


def thin_plan(steps, pictures):
    """A plan that begins with the way forward, none of whose steps is done more often than it must be."""
    need_steps(steps, 1000)
    need_pictures(pictures)
    need_few(steps, pictures)
    acts, held = way_to(steps, pictures)
    acts.append(("show",))
    bases = {held[picture]: picture for picture in held}
    bases[0] = 0
    top = steps - 1
    for base in sorted(bases, reverse=True):
        if top >= base:
            free = tuple([k for k in range(1, pictures + 1) if held.get(k, steps) > base])
            acts.append(("take", bases[base]))
            show_back(acts, top - base, free, bases[base])
            top = base - 1
    return tuple(acts)
