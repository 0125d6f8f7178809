"""Journals of sessions: their deeds as texts, taken up again, and trimmed."""

from firstwrong.errors import BadLine, BadTerm, NotNow, TooMany
from firstwrong.kinds import is_row
from firstwrong.sessions import Session, need_session
from firstwrong.sittings import behind_deed
from firstwrong.terms import deed_of_text, text_of_deed

MOST_DEEDS = 64


def journal(session):
    """The texts of a session's present deeds."""
    need_session(session)
    return [text_of_deed(deed) for deed in session.deeds()]


def taken_up(start, story, each, lines):
    """The session that has done the deeds of these lines."""
    session = Session(start, story, each)
    if not is_row(lines):
        raise BadLine(None)
    for number, line in enumerate(lines):
        try:
            session.do(deed_of_text(session.program, line))
        except (BadTerm, NotNow):
            raise BadLine(number) from None
    return session


def trimmed(session):
    """The present deeds without those that are not needed to come where the session stands."""
    need_session(session)
    kept = session.deeds()
    if len(kept) > MOST_DEEDS:
        raise TooMany(MOST_DEEDS)
    sittings = session.sittings[:len(kept) + 1]
    moment, shows = sittings[-1].moment_now(), sittings[-1].shows()
    lean = False
    while not lean:
        lean = True
        for place in range(len(kept) - 1, -1, -1):
            rest = sittings_behind(sittings[place], kept[place + 1:])
            if rest is not None and rest[-1].moment_now() == moment and rest[-1].shows() == shows:
                kept = kept[:place] + kept[place + 1:]
                sittings = sittings[:place] + rest
                lean = False
    return kept


def sittings_behind(sitting, deeds):
    """Where a session stands ahead of each of these deeds, and behind them; None if one cannot be done."""
    found = [sitting]
    for deed in deeds:
        try:
            found.append(behind_deed(found[-1], deed))
        except NotNow:
            return None
    return found

