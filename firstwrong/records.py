"""Records: a kind and a payload as bytes, with their mark behind them."""

from firstwrong.errors import BadBytes, BadNumber, TooMany
from firstwrong.kinds import is_byte_row, is_number_in
from firstwrong.rows import four_bytes, low_bytes, mark_of

MOST_KIND = 5
MOST_PAYLOAD = 65535
# So many bytes stand ahead of a payload, and so many behind it.
AHEAD = 3
BEHIND = 4


def record_bytes(kind, payload):
    """The bytes of a record."""
    if not is_number_in(kind, 1, MOST_KIND):
        raise BadNumber("kind")
    if not is_byte_row(payload):
        raise BadBytes(None)
    if len(payload) > MOST_PAYLOAD:
        raise TooMany(MOST_PAYLOAD)
    body = (kind,) + low_bytes(len(payload), 2) + tuple(payload)
    return body + four_bytes(mark_of(body))


def records_of(thing):
    """The whole records at the beginning, how many bytes they are, and what stands behind."""
    if not is_byte_row(thing):
        raise BadBytes(None)
    row = tuple(thing)
    found = []
    at = 0
    payload = payload_at(row, at)
    while payload is not None:
        found.append((row[at], payload))
        at += AHEAD + len(payload) + BEHIND
        payload = payload_at(row, at)
    return (found, at, why_ended(row[at:]))


def payload_at(row, at):
    """The payload of the record that is whole at this place; None if there is none."""
    body, mark = parted(row[at:at + AHEAD + MOST_PAYLOAD + BEHIND])
    if mark is None or mark != four_bytes(mark_of(body)):
        return None
    return body[AHEAD:]


def parted(rest):
    """What is there of a record that begins here: the bytes that are marked, and those
    of the mark (None if the marked ones are not all there, or it is no record)."""
    if len(rest) < AHEAD or not 1 <= rest[0] <= MOST_KIND:
        return (rest, None)
    end = AHEAD + rest[1] + 256 * rest[2]
    if len(rest) < end:
        return (rest, None)
    return (rest[:end], rest[end:end + BEHIND])


def why_ended(rest):
    """What bytes are behind which no whole record stands: the beginning of one, or strange."""
    if rest == ():
        return "whole"
    if not 1 <= rest[0] <= MOST_KIND:
        return "strange"
    body, mark = parted(rest)
    if mark is None or mark == four_bytes(mark_of(body))[:len(mark)]:
        return "torn"
    return "strange"
