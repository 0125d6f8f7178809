"""Stops, and the places of a past at which they stop."""

from firstwrong.bodies import STATEMENTS
from firstwrong.cells import is_look_of, may_change, shown_by
from firstwrong.conditions import Candidates, is_condition_of, is_test, tested
from firstwrong.errors import BadStop
from firstwrong.kinds import is_one_of, is_same, is_tuple_of, is_word
from firstwrong.momentparts import WRONG_WORDS
from firstwrong.pasts import all_moments, moment_of, need_past, need_place, numbers_from, redone
from firstwrong.spots import is_thread_of
from firstwrong.trees import need_program, pieces


def is_stop(program, thing):
    """Whether any value is a stop of a program."""
    need_program(program)
    return is_stop_of(program, thing)


def is_stop_of(program, thing):
    """The same for what surely is a program."""
    if is_tuple_of(thing, 5):
        return is_one_of(thing[0], ("at",)) and is_stop_at(program, thing[1:])
    if not is_tuple_of(thing, 2):
        return False
    if is_one_of(thing[0], ("watch",)):
        return is_look_of(program, thing[1])
    if is_one_of(thing[0], ("when",)):
        return is_condition_of(program, thing[1])
    return is_one_of(thing[0], ("wrong",)) and is_one_of(thing[1], WRONG_WORDS)


def is_stop_at(program, told):
    """Whether four values are what a stop "at" tells."""
    thread, word, statement, test = told
    if thread is not None and not is_thread_of(program, thread):
        return False
    if not is_word(word) or word not in program.names.functions:
        return False
    number = program.names.functions[word]
    if statement is not None and not stands_in(program, number, statement):
        return False
    return is_test(program.names, number, test)


def stands_in(program, number, thing):
    """Whether any value is a statement that stands somewhere in a body."""
    if not isinstance(thing, tuple):
        return False
    known = [piece for _, piece in pieces(program, number) if piece[0] in STATEMENTS]
    return any([is_same(thing, piece) for piece in known])


def need_stop(past, stop):
    """Refuses what is no stop."""
    if not is_stop_of(past.program, stop):
        raise BadStop("a stop of the program is wanted")


def is_deed_of(past, number, stop):
    """Whether a deed is a step of the thread, function and statement of a stop "at"."""
    _, thread, word, statement, _ = stop
    entry, function, done = past.did[number][:3]
    if function != past.program.names.functions[word]:
        return False
    return (thread is None or entry == thread) and (statement is None or done == statement)


def stops_at(past, number, stop, moment):
    """Whether a stop "at" stops ahead of such a deed."""
    return tested(moment, moment.stacks[past.did[number][0]], stop[4])[0]


def stopping_places(past, stop):
    """The ascending list of the places at which a stop stops."""
    need_past(past)
    need_stop(past, stop)
    return places_told(past, stop, all_moments(past))


def places_of_all(past, stops):
    """The ascending list of the places at which one of these stops stops."""
    moments = all_moments(past) if stops != [] else []
    return sorted(set([place for stop in stops for place in places_told(past, stop, moments)]))


def places_told(past, stop, moments):
    """The places at which a stop stops, by all moments of the past."""
    if stop[0] == "at":
        return [number for number in range(past.length)
                if is_deed_of(past, number, stop) and stops_at(past, number, stop, moments[number])]
    if stop[0] == "watch":
        shows = [shown_by(moment, stop[1]) for moment in moments]
        return [place for place in range(1, len(shows)) if shows[place] != shows[place - 1]]
    if stop[0] == "when":
        held = [tested(moment, (), stop[1])[0] for moment in moments]
        return [place for place in range(1, len(held)) if held[place] and not held[place - 1]]
    return wrong_places(past, stop)


def wrong_places(past, stop):
    """The place behind the deed that went wrong so."""
    if past.wrong is None or past.wrong[2] != stop[1]:
        return []
    return [past.wrong[0] + 1]


def next_stop(past, place, stop):
    """The least stopping place above a place, and how many deeds were done once more."""
    return stop_beside(past, place, stop, True)


def last_stop(past, place, stop):
    """The greatest stopping place below a place, and how many deeds were done once more."""
    return stop_beside(past, place, stop, False)


def stop_beside(past, place, stop, forwards):
    """The nearest stopping place in one direction."""
    need_past(past)
    need_place(past, place)
    need_stop(past, stop)
    if stop[0] == "at":
        return beside_at(past, place, stop, forwards)
    if stop[0] == "watch":
        return beside_watch(past, place, stop, forwards)
    if stop[0] == "when":
        return after_when(past, place, stop) if forwards else before_when(past, place, stop)
    places = [spot for spot in wrong_places(past, stop) if (spot > place if forwards else spot < place)]
    return (places[0] if places != [] else None, 0)


def beside_at(past, place, stop, forwards):
    """The nearest place ahead of a step that a stop "at" tells."""
    done = 0
    for number in numbers_from(past, place + 1, place - 1, forwards):
        if is_deed_of(past, number, stop):
            moment, again = moment_of(past, number)
            done += again
            if stops_at(past, number, stop, moment):
                return (number, done)
    return (None, done)


def beside_watch(past, place, stop, forwards):
    """The nearest place behind a deed that changes what is watched."""
    done = 0
    for number in numbers_from(past, place, place - 2, forwards):
        if may_change(past.did[number], stop[1]):
            moment, again = moment_of(past, number)
            after = redone(past, number, moment)
            done += again + 1
            if shown_by(moment, stop[1]) != shown_by(after, stop[1]):
                return (number + 1, done)
    return (None, done)


def after_when(past, place, stop):
    """The next place at which a condition holds, but not ahead of it."""
    candidates = Candidates(past, place, stop[1], True)
    before = True
    while candidates.place is not None and (before or not candidates.hold):
        before = candidates.hold
        candidates.go_further()
    return (candidates.place, candidates.again)


def before_when(past, place, stop):
    """The last place ahead at which a condition holds, but not ahead of it."""
    candidates = Candidates(past, place, stop[1], False)
    found = None
    while found is None and candidates.place is not None:
        held = candidates.hold
        candidates.go_further()
        if candidates.place is not None and held and not candidates.hold and candidates.place + 1 < place:
            found = candidates.place + 1
    return (found, candidates.again)
