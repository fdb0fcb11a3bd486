"""Things written as lines, and such lines read to things."""

from freshbook.errors import NoLine

LETTERS = "abcdefghijklmnopqrstuvwxyz"
FIGURES = "0123456789"


def shown(things):
    return [line_of(name, keeper, value) for name, keeper, value in things]


def read(count, lines):
    things = []
    names = {}
    for line in lines:
        thing = thing_of(count, line)
        if thing[0] in names:
            raise NoLine("the name stands in a line above already")
        names[thing[0]] = True
        things.append(thing)
    return things


def line_of(name, keeper, value):
    check_name(name)
    return f"{name} at {keeper} is {value}"


def thing_of(count, line):
    parts = line.split(" ")
    if len(parts) != 5 or parts[1] != "at" or parts[3] != "is":
        raise NoLine("the line is not a name, at, a keeper, is and a value, with one blank between")
    check_name(parts[0])
    keeper = number_of(parts[2])
    if not 0 <= keeper < count:
        raise NoLine("there is no such keeper")
    return (parts[0], keeper, number_of(parts[4]))


def check_name(name):
    if not made_of(name, LETTERS):
        raise NoLine("the name is not of one or more of the letters a to z")


def number_of(text):
    below = text.startswith("-")
    figures = text[1:] if below else text
    if not made_of(figures, FIGURES):
        raise NoLine("a number is not written in figures")
    if figures[0] == "0" and text != "0":
        raise NoLine("a number begins with a nought, or is nought with a sign")
    size = size_of(figures)
    return -size if below else size


def size_of(figures):
    # Not by int, which refuses very long texts in words of Python's own.
    size = 0
    for figure in figures:
        size = size * 10 + FIGURES.find(figure)
    return size


def made_of(text, signs):
    return text != "" and all([sign in signs for sign in text])
