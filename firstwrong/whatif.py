"""What would have come: pasts with an input, an entry or a course exchanged."""

from firstwrong.errors import BadEdit, BadNumber, BadPast, BadStory, NotNow, TooMany
from firstwrong.kinds import is_int, is_number_in, is_row
from firstwrong.pasts import Past, entries_ahead, grown_past, moment_of, need_past, need_place, redone
from firstwrong.stories import done_entry, is_edit_of, is_story

MOST_DEEDS = 64


def need_pasts(one, other):
    """Refuses what are no pasts of one start."""
    need_past(one)
    need_past(other)
    if one.start != other.start:
        raise BadPast("fit")


def deeds_part(one, other):
    """The first deed by which two pasts of one start are unlike; None if there is none."""
    need_pasts(one, other)
    return parted_at(one, other)


def parted_at(one, other):
    """The same for what surely are pasts of one start."""
    both = min(one.length, other.length)
    for number in range(both):
        if one.did[number][0] != other.did[number][0] or one.did[number][3] != other.did[number][3]:
            return number
    return None if one.length == other.length else both


def parting(one, other):
    """The first place at which two pasts of one start are unlike, and how many deeds were done once more."""
    need_pasts(one, other)
    place = parted_at(one, other)
    last = min(one.length, other.length)
    if place is None or place == last:
        return (None, 0)
    first, again = moment_of(one, place)
    second, more = moment_of(other, place)
    again += more
    while first == second and place < last:
        first = redone(one, place, first)
        second = redone(other, place, second)
        place += 1
        again += 2
    return (place if first != second else None, again)


def with_input(past, number, size):
    """The past with another input, and how many deeds were done once more."""
    need_past(past)
    inputs, course = past.story
    if not is_number_in(number, 0, len(inputs) - 1):
        raise BadNumber("number")
    if not is_int(size):
        raise BadNumber("size")
    story = (inputs[:number] + (size,) + inputs[number + 1:], course)
    entry, place = past.wants.get(number, (len(course), past.length))
    return grown_past(past, place, entry, story)


def with_course(past, place, course):
    """The past with another course from a deed on, and how many deeds were done once more."""
    need_past(past)
    need_place(past, place)
    if not is_row(course):
        raise BadStory("a list of entries is wanted")
    entries = entries_ahead(past, place)
    story = (past.story[0], past.story[1][:entries] + tuple(course))
    if not is_story(past.program, story):
        raise BadStory("a list of entries is wanted, not too many in all")
    return grown_past(past, place, entries, story)


def need_edit(past, place, edit):
    """Refuses what is no place and edit of a past."""
    need_past(past)
    need_place(past, place)
    if not is_edit_of(past.program, edit):
        raise BadEdit("an edit of the past's program is wanted")


def with_edit(past, place, edit):
    """The past with an edit ahead of a deed, and how many deeds were done once more."""
    need_edit(past, place, edit)
    return with_course(past, place, (edit,) + past.story[1][entries_ahead(past, place):])


def reach_of_edit(past, place, edit):
    """The places from this one on at which an edit ahead of a deed makes a moment unlike."""
    other, _ = with_edit(past, place, edit)
    first, _ = moment_of(past, place)
    done = done_entry(first, past.story[0], edit)
    if done is None:
        return []
    second, _ = done
    found = []
    last = min(past.length, other.length - 1)
    for spot in range(place, last + 1):
        if first != second:
            found.append(spot)
        if spot < last:
            first = redone(past, spot, first)
            second = redone(other, spot + 1, second)
    return found


def without_deed(past, place):
    """The past without the entry of a deed."""
    need_past(past)
    if not is_number_in(place, 0, past.length - 1):
        raise BadNumber("place")
    inputs, course = past.story
    entry = past.entries[place]
    found, _ = grown_past(past, place, entry, (inputs, course[:entry] + course[entry + 1:]))
    return found


def lean_past(past):
    """The past of those entries alone by which it goes wrong as it does."""
    need_past(past)
    if past.wrong is None:
        raise NotNow("clean")
    if past.length > MOST_DEEDS:
        raise TooMany(MOST_DEEDS)
    inputs, course = past.story
    kept = [course[number] for number in past.entries]
    lean = False
    while not lean:
        lean = True
        for place in range(len(kept) - 1, -1, -1):
            fewer = kept[:place] + kept[place + 1:]
            trial = Past(past.start, (inputs, tuple(fewer)), past.each)
            if trial.wrong is not None and trial.wrong[1:] == past.wrong[1:]:
                kept = fewer
                lean = False
    return Past(past.start, (inputs, tuple(kept)), past.each)
