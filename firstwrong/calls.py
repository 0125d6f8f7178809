"""Calls in a past: frames, where they begin and end, and what is passed over."""

from firstwrong.errors import NotNow
from firstwrong.pasts import need_past, need_place
from firstwrong.turns import need_thread


def heights_of(past, thread):
    """How many frames a thread's stack has at each place."""
    return tuple([row[thread] for row in past.heights])


def depths(past, thread):
    """How many frames a thread's stack has at each place."""
    need_past(past)
    need_thread(past.program, thread)
    return heights_of(past, thread)


def heights_at(past, place, thread):
    """The same, for a thread that has a frame at this place."""
    need_past(past)
    need_place(past, place)
    need_thread(past.program, thread)
    heights = heights_of(past, thread)
    if heights[place] == 0:
        raise NotNow("ended")
    return heights


def call_of(past, place, thread):
    """The deed by which the frame on top was begun."""
    heights = heights_at(past, place, thread)
    for number in range(place - 1, -1, -1):
        if heights[number] < heights[place] == heights[number + 1]:
            return number
    return None


def return_of(past, place, thread):
    """The deed with which the frame on top ends."""
    heights = heights_at(past, place, thread)
    for number in range(place, past.length):
        if heights[number + 1] < heights[place]:
            return number
    return None


def is_step_of(past, number, thread):
    """Whether a deed is a step of a thread."""
    return past.did[number][0] == thread


def over(past, place, thread):
    """The next place behind a step at which the stack is not higher."""
    heights = heights_at(past, place, thread)
    for number in range(place, past.length):
        if is_step_of(past, number, thread) and heights[number + 1] <= heights[place]:
            return number + 1
    return None


def over_back(past, place, thread):
    """The last place ahead of a step at which the stack was not higher."""
    heights = heights_at(past, place, thread)
    for number in range(place - 1, -1, -1):
        if is_step_of(past, number, thread) and heights[number] <= heights[place]:
            return number
    return None


def frames_of(past, thread):
    """(function's word, depth, from, to) of each frame, in the sequence in which they began."""
    need_past(past)
    need_thread(past.program, thread)
    heights = heights_of(past, thread)
    functions = past.program.functions
    found = []
    for below, frame in enumerate(past.start.stacks[thread]):
        found.append([functions[frame[0]][0], below + 1, 0, past.length])
    standing = list(found)
    for number in range(past.length):
        if heights[number + 1] > heights[number]:
            frame = [past.did[number][2][2], heights[number + 1], number + 1, past.length]
            found.append(frame)
            standing.append(frame)
        elif heights[number + 1] < heights[number]:
            frame = standing.pop()
            frame[3] = number
    return [tuple(frame) for frame in found]
