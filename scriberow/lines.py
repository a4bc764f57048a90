"""Writings as lines, and lines read to writings."""

from scriberow.errors import NoLine

FIGURES = "0123456789"
LETTERS = "abcdefghijklmnopqrstuvwxyz"


def shown(writings):
    return [f"{number} {scribe} {place} {saying}" for number, scribe, place, saying in writings]


# Each sign is looked up by itself, since Python's own tests take figures and letters of other alphabets too.
def is_made_of(signs, text):
    return text != "" and all([sign in signs for sign in text])


def is_number(text):
    return is_made_of(FIGURES, text) and (text == "0" or text[0] != "0")


# Figure by figure, since int refuses some thousand figures by an error that is not the program's own.
def number_of(text):
    number = 0
    for figure in text:
        number = 10 * number + FIGURES.index(figure)
    return number


def is_line(count, parts):
    if len(parts) != 4 or not all([is_number(part) for part in parts[:3]]):
        return False
    return number_of(parts[1]) < count and is_made_of(LETTERS, parts[3])


def writing_of(count, line):
    parts = line.split(" ")
    if not is_line(count, parts):
        raise NoLine(f"no writing is written as {line!r}")
    return (number_of(parts[0]), number_of(parts[1]), number_of(parts[2]), parts[3])


def read(count, lines):
    return [writing_of(count, line) for line in lines]
