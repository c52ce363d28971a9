"""Fractions as texts: how they are written, and how such texts are read."""

from wareplan.errors import NoFraction
from wareplan.fractions import common_divisor

FIGURES = "0123456789"


# Figure by figure, since str and int refuse numbers of some thousand figures.
def shown_whole(number):
    rest = abs(number)
    text = FIGURES[rest % 10]
    rest = rest // 10
    while rest > 0:
        text = FIGURES[rest % 10] + text
        rest = rest // 10
    return "-" + text if number < 0 else text


def shown(fraction):
    top = shown_whole(fraction[0])
    if fraction[1] == 1:
        return top
    return top + "/" + shown_whole(fraction[1])


def read_figures(figures):
    number = 0
    for sign in figures:
        figure = FIGURES.find(sign)
        if figure < 0:
            raise NoFraction("a sign that is no figure")
        number = number * 10 + figure
    return number


def read_whole(text):
    below = text.startswith("-")
    figures = text[1:] if below else text
    if figures == "":
        raise NoFraction("a number without figures")
    # Nought itself is the one number that begins with a nought, and it has no sign.
    if figures.startswith("0") and text != "0":
        raise NoFraction("a nought ahead of a number, or a sign ahead of nought")
    number = read_figures(figures)
    return -number if below else number


def read(line):
    parts = line.split("/")
    if len(parts) > 2:
        raise NoFraction("more than one stroke")
    top = read_whole(parts[0])
    if len(parts) == 1:
        return (top, 1)
    bottom = read_whole(parts[1])
    # A bottom of 1 isn't written.
    if bottom < 2:
        raise NoFraction("a bottom below two")
    # A top of nought has the whole bottom as common divisor, so it is refused here too.
    if common_divisor(abs(top), bottom) != 1:
        raise NoFraction("not in lowest terms")
    return (top, bottom)
