"""Texts of programs: written, read, and mended where lines are wrong."""

from firstwrong.errors import BadText
from firstwrong.textforms import WrongLine
from firstwrong.textreader import TextReader
from firstwrong.texttokens import is_passed
from firstwrong.textwriter import program_lines
from firstwrong.trees import need_program


def text_of(program):
    """The text of a program."""
    need_program(program)
    return "\n".join(program_lines(program))


def read_text(text):
    """The reader of all lines of a text that are not wrong, and the pairs of those that are."""
    if not isinstance(text, str):
        raise BadText(None, "form")
    reader = TextReader()
    wrong = []
    lines = text.split("\n")
    for number, line in enumerate(lines):
        if is_passed(line):
            continue
        try:
            reader.read_line(number, line)
        except WrongLine as error:
            wrong.append((number, error.reason))
    if reader.opened != []:
        wrong.append((len(lines), "end"))
    return (reader, wrong)


def right_text(text):
    """The reader of a text without wrong lines."""
    reader, wrong = read_text(text)
    if wrong != []:
        line, reason = wrong[0]
        raise BadText(line, reason)
    return reader


def program_of_text(text):
    """The program whose text this is."""
    return right_text(text).program_read()


def wrong_lines(text):
    """The wrong lines with their reasons, each judged as if those ahead were not there."""
    _, wrong = read_text(text)
    return wrong


def mended(text):
    """The program of a text without its wrong lines, with the ends that lack."""
    reader, _ = read_text(text)
    return reader.program_read()


def statement_lines(text):
    """The lines at which statements begin, with their functions and places."""
    return right_text(text).begins
