"""The best plan of a task, or what shows that there is none."""

from wareplan.fractions import NOUGHT, ONE, opposite
from wareplan.sheets import Sheet, exchanged


def in_fractions(numbers):
    return [(number, 1) for number in numbers]


# What is left of a stock is its amount less what the plan uses of it.
def stock_line(row, amount):
    return in_fractions([-use for use in row] + [amount])


# The unknowns: first the pieces of each ware, behind them what is left of each stock. None may be below nought.
def first_sheet(uses, amounts, gains):
    wares = len(gains)
    inner = list(range(wares, wares + len(amounts)))
    lines = [stock_line(row, amount) for row, amount in zip(uses, amounts)]
    return Sheet(inner, list(range(wares)), lines, in_fractions(gains + [0]))


def least_place(unknowns, places):
    return min(places, key=lambda place: unknowns[place], default=None)


# With nought for all outer unknowns, an inner one is its base, and must not be below nought.
def least_short(sheet):
    return least_place(sheet.inner, [row for row, line in enumerate(sheet.lines) if line[-1][0] < 0])


# An outer unknown with a gain above nought would make the goal greater.
def least_gaining(sheet):
    return least_place(sheet.outer, [place for place, part in enumerate(sheet.goal[:-1]) if part[0] > 0])


# Only an outer unknown that makes the short one greater can help it; where there is none, no plan is possible.
def least_helping(sheet, row):
    line = sheet.lines[row]
    return least_place(sheet.outer, [place for place, part in enumerate(line[:-1]) if part[0] > 0])


# Only an inner unknown that becomes less can bound the gaining one; where there is none, it is a way without end.
def least_bounding(sheet, place):
    return least_place(sheet.inner, [row for row, line in enumerate(sheet.lines) if line[place][0] < 0])


# Always the unknown of the least number, short or gaining, and the least one that it can change places with: under
# this rule (the criss-cross method of Terlaky) no sheet comes again, however many choices stand equal, so it ends.
# Told are the last sheet, the row that stays short and the place that gains without bound, each None if there is none.
def searched(sheet):
    while True:
        row = least_short(sheet)
        place = least_gaining(sheet)
        if row is None and place is None:
            return (sheet, None, None)
        if place is None or (row is not None and sheet.inner[row] < sheet.outer[place]):
            place = least_helping(sheet, row)
            if place is None:
                return (sheet, row, None)
        else:
            row = least_bounding(sheet, place)
            if row is None:
                return (sheet, None, place)
        sheet = exchanged(sheet, row, place)


# A sheet has as many outer unknowns as there are wares and as many inner ones as there are stocks, whatever changed.
def of_wares(sheet, known):
    return [known.get(ware, NOUGHT) for ware in range(len(sheet.outer))]


def of_stocks(sheet, known):
    wares = len(sheet.outer)
    return [known.get(wares + stock, NOUGHT) for stock in range(len(sheet.inner))]


def plan_of(sheet):
    return of_wares(sheet, dict(zip(sheet.inner, [line[-1] for line in sheet.lines])))


# What the goal loses by each piece of a stock that is left over is what the stock is worth.
def prices_of(sheet):
    return of_stocks(sheet, dict(zip(sheet.outer, [opposite(part) for part in sheet.goal[:-1]])))


# The short unknown less its row comes to its base, below nought: so counted, the wares use nought or more.
def weights_of(sheet, row):
    known = dict(zip(sheet.outer, [opposite(part) for part in sheet.lines[row][:-1]]))
    known[sheet.inner[row]] = ONE
    return of_stocks(sheet, known)


# One more of the outer unknown at the place, and what the inner ones become more by it.
def way_of(sheet, place):
    known = dict(zip(sheet.inner, [line[place] for line in sheet.lines]))
    known[sheet.outer[place]] = ONE
    return of_wares(sheet, known)


# With gains of nought nothing is gaining, so the search looks for a possible plan alone.
def without_gains(sheet):
    return Sheet(sheet.inner, sheet.outer, sheet.lines, [NOUGHT for part in sheet.goal])


# The way holds whatever the amounts are, but the sheet that shows it may still have short unknowns.
def solved_with_way(sheet, place):
    found = searched(without_gains(sheet))
    if found[1] is not None:
        return ("none", weights_of(found[0], found[1]))
    return ("endless", plan_of(found[0]), way_of(sheet, place))


def solved(uses, amounts, gains):
    found = searched(first_sheet(uses, amounts, gains))
    if found[2] is not None:
        return solved_with_way(found[0], found[2])
    if found[1] is not None:
        return ("none", weights_of(found[0], found[1]))
    return ("best", plan_of(found[0]), prices_of(found[0]))
