"""Sheets: inner unknowns told by outer ones, and how two of them change places."""

from wareplan.fractions import NOUGHT, ONE, opposite, over, plus, times


# A line is a row with its base behind it: so a change treats both alike, and places in the row are places in the line.
class Sheet:
    def __init__(self, inner, outer, lines, goal):
        self.inner = inner
        self.outer = outer
        self.lines = lines
        self.goal = goal


# The inner unknown moves to the other side, so all that stays on its side changes its sign.
def solved_for(line, place):
    divisor = opposite(line[place])
    told = [over(part, divisor) for part in line]
    told[place] = over(ONE, line[place])
    return told


# The outer unknown at the place is gone, so what stands there now belongs to the one that comes in for it.
def with_put_in(line, place, told):
    factor = line[place]
    new = [plus(part, times(factor, other)) for part, other in zip(line, told)]
    new[place] = times(factor, told[place])
    return new


def exchanged(sheet, row, place):
    told = solved_for(sheet.lines[row], place)
    lines = [with_put_in(line, place, told) for line in sheet.lines]
    lines[row] = told
    goal = with_put_in(sheet.goal, place, told)
    inner = list(sheet.inner)
    inner[row] = sheet.outer[place]
    outer = list(sheet.outer)
    outer[place] = sheet.inner[row]
    return Sheet(inner, outer, lines, goal)


def after_changes(inner, outer, bases, rows, gains, changes):
    lines = [row + [base] for row, base in zip(rows, bases)]
    sheet = Sheet(list(inner), list(outer), lines, gains + [NOUGHT])
    for change in changes:
        row = change[0]
        place = change[1]
        if sheet.lines[row][place] != NOUGHT:
            sheet = exchanged(sheet, row, place)
    new_bases = [line[-1] for line in sheet.lines]
    new_rows = [line[:-1] for line in sheet.lines]
    return (sheet.inner, sheet.outer, new_bases, new_rows, sheet.goal[-1], sheet.goal[:-1])
