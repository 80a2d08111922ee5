"""Rides written as lines, and lines read as rides."""

from ridebook.checks import keeps_time
from ridebook.errors import NoLine

FIGURES = "0123456789"


def shown_call(stop, come, leave):
    return f"{stop} {come} {leave}"


def shown(ride):
    return " > ".join([shown_call(stop, come, leave) for stop, come, leave in ride])


def is_number(word):
    # Asked figure by figure: `int` takes blanks, a sign +, `_` and other scripts' figures too.
    if word == "0":
        return True
    figures = word[1:] if word.startswith("-") else word
    return figures != "" and figures[0] != "0" and all([sign in FIGURES for sign in figures])


def read_call(words):
    if len(words) != 3 or not all([is_number(word) for word in words]):
        raise NoLine("a call is three numbers with one blank between")
    if words[0].startswith("-"):
        raise NoLine("a stop is below nought")
    return (int(words[0]), int(words[1]), int(words[2]))


def read(line):
    ride = [read_call(call.split(" ")) for call in line.split(" > ")]
    if not keeps_time(ride):
        raise NoLine("the times don't follow one another")
    return ride
