"""Branches of sessions: where they come from, and up to where they are alike."""

from firstwrong.errors import BadNumber
from firstwrong.kinds import is_number_in
from firstwrong.sessions import need_session
from firstwrong.whatif import parting


def need_branch(session, number, part):
    """Refuses what is no number of a branch."""
    if not is_number_in(number, 0, len(session.branches()) - 1):
        raise BadNumber(part)


def way_back(rows, number):
    """The numbers of a branch, of its parent, and so on to the first one."""
    found = [number]
    while rows[found[-1]][0] is not None:
        found.append(rows[found[-1]][0])
    return found


def parents_of(session, number):
    """A branch's number, its parent's, and so on to 0."""
    need_session(session)
    need_branch(session, number, "number")
    return tuple(way_back(session.branches(), number))


def alike_up_to(session, one, other):
    """Up to which place the moments of two branches are surely the same."""
    need_session(session)
    need_branch(session, one, "one")
    need_branch(session, other, "other")
    if one == other:
        return session.past(one).length
    rows = session.branches()
    first = way_back(rows, one)
    second = way_back(rows, other)
    # Where the ways meet, and from there on, they are the same.
    apart = [number for number in first if number not in second] + [number for number in second if number not in first]
    return min([rows[number][1] for number in apart])


def partings(session):
    """For each branch at which place it parts from each branch."""
    need_session(session)
    pasts = [session.past(number) for number in range(len(session.branches()))]
    rows = []
    for number, past in enumerate(pasts):
        # Two branches part where they part the other way about.
        known = [row[number] for row in rows]
        rows.append(tuple(known + [parting(past, other)[0] for other in pasts[number:]]))
    return rows
