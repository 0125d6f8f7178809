"""Terms as texts, and deeds as texts of their terms."""

from firstwrong.errors import BadDeed, BadTerm
from firstwrong.kinds import LETTERS, is_number
from firstwrong.sessions import is_deed
from firstwrong.trees import need_program

MOST_DIGITS = 40
MOST_LETTERS = 12
MOST_DEEP = 40
DIGITS = "0123456789"
SIGNS = {"#n": None, "#t": True, "#f": False, "#e": ""}


def is_term(thing):
    """Whether any value is a term."""
    return is_term_in(thing, MOST_DEEP)


def is_term_in(thing, left):
    """The same, where so many tuples more may stand within one another."""
    if isinstance(thing, tuple):
        return left > 0 and all([is_term_in(part, left - 1) for part in thing])
    if isinstance(thing, str):
        return len(thing) <= MOST_LETTERS and all([letter in LETTERS for letter in thing])
    if is_number(thing):
        return -(10 ** 40) < thing < 10 ** 40
    return thing is None or isinstance(thing, bool)


def term_text(term):
    """The text of a term."""
    if not is_term(term):
        raise BadTerm("a term is wanted")
    return text_told(term)


def text_told(term):
    """The same for what surely is a term."""
    if isinstance(term, tuple):
        return "(" + " ".join([text_told(part) for part in term]) + ")"
    if term is None:
        return "#n"
    if isinstance(term, bool):
        return "#t" if term else "#f"
    if term == "":
        return "#e"
    return str(term)


def term_of_text(text):
    """The term of a text."""
    if not isinstance(text, str):
        raise BadTerm("the text of a term is wanted")
    term = term_read(text)
    # What is read from another text than the term's own is none.
    if not is_term(term) or text_told(term) != text:
        raise BadTerm("the text of a term is wanted")
    return term


def term_read(text):
    """The term that a text seems to be of."""
    opened = [[]]
    word = ""
    for sign in text + " ":
        if sign in "() " and word != "":
            opened[-1].append(plain_read(word))
            word = ""
        if sign == "(":
            opened.append([])
        elif sign == ")" and len(opened) > 1:
            whole = tuple(opened.pop())
            opened[-1].append(whole)
        elif sign not in "() ":
            word = word + sign
        if len(opened) > MOST_DEEP + 1 or len(word) > MOST_DIGITS + 1:
            raise BadTerm("no term is as deep, or as long")
    if len(opened) != 1 or len(opened[0]) != 1:
        raise BadTerm("one term is wanted")
    return opened[0][0]


def plain_read(word):
    """The term of a text without brackets and blanks."""
    if word in SIGNS:
        return SIGNS[word]
    figures = word[1:] if word[0] == "-" else word
    if 0 < len(figures) <= MOST_DIGITS and all([sign in DIGITS for sign in figures]):
        return int(word)
    return word


def deed_text(program, deed):
    """The text of a deed."""
    need_program(program)
    if not is_deed(program, deed):
        raise BadDeed("a deed of the program is wanted")
    return text_of_deed(deed)


def text_of_deed(deed):
    """The same for what surely is a deed."""
    return " ".join([text_told(part) for part in deed])


def deed_of_text(program, text):
    """The deed of a text."""
    need_program(program)
    if not isinstance(text, str):
        raise BadTerm("the text of a deed is wanted")
    deed = term_of_text("(" + text + ")")
    if not is_deed(program, deed):
        raise BadTerm("the text of a deed is wanted")
    return deed
