"""Lines of texts as rows of tokens."""

from firstwrong.kinds import LETTERS

DIGITS = "0123456789"
SIGNS = "@$&,()[]+-*/<="
BLANK = " "
MOST_LETTERS = 12
MOST_DIGITS = 10
MOST_OPEN = 12


def is_passed(line):
    """Whether a line is passed over."""
    signs = line.strip(BLANK)
    return signs == "" or signs.startswith("#")


def tokens_of(line):
    """The tokens of a line, None if it has others or too many brackets are open."""
    found = []
    at = 0
    while at < len(line):
        end = end_of_token(line, at)
        if end is None:
            return None
        if line[at] != BLANK:
            found.append(line[at:end])
        at = end
    return found if most_open(found) <= MOST_OPEN else None


def end_of_token(line, at):
    """Where the token (or blank) ends that begins here; None if none does."""
    sign = line[at]
    if sign in LETTERS:
        end = end_of_run(line, at, LETTERS)
        return end if end - at <= MOST_LETTERS else None
    if sign in DIGITS:
        end = end_of_run(line, at, DIGITS)
        if end - at > MOST_DIGITS or (sign == "0" and end - at > 1):
            return None
        return end
    if line[at:at + 2] == "==":
        return at + 2
    return at + 1 if sign in SIGNS or sign == BLANK else None


def end_of_run(line, at, signs):
    """Where the longest run of these signs ends."""
    while at < len(line) and line[at] in signs:
        at += 1
    return at


def most_open(tokens):
    """How many brackets are open at once, at most."""
    most = 0
    now = 0
    for token in tokens:
        if token in ("(", "["):
            now += 1
        elif token in (")", "]"):
            now -= 1
        most = max(most, now)
    return most


def is_word_token(token):
    """Whether a token is a word."""
    return token != "" and token[0] in LETTERS


def is_figures(token):
    """Whether a token is figures."""
    return token != "" and token[0] in DIGITS
