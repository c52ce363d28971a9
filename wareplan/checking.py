"""Whether an answer's fractions show that it is right, and the turned task."""

from wareplan.fractions import NOUGHT, less


# The sum of each number times its fraction, over the product of all bottoms. It is not brought to lowest terms: it is
# only compared, and an answer's fractions may have so many figures that looking for a common divisor takes long.
def total(numbers, fractions):
    top = 0
    bottom = 1
    for number, fraction in zip(numbers, fractions):
        top = top * fraction[1] + number * fraction[0] * bottom
        bottom = bottom * fraction[1]
    return (top, bottom)


def none_below_nought(fractions):
    return all([fraction[0] >= 0 for fraction in fractions])


def possible(uses, amounts, plan):
    within = [not less((amount, 1), total(row, plan)) for row, amount in zip(uses, amounts)]
    return none_below_nought(plan) and all(within)


def used_by(ware, uses):
    return [row[ware] for row in uses]


# Counted by these fractions, what a piece of each ware uses comes to no less than what is wanted of that ware.
def covered(uses, wanted, fractions):
    short = [less(total(used_by(ware, uses), fractions), (least, 1)) for ware, least in enumerate(wanted)]
    return none_below_nought(fractions) and not any(short)


# Sums that aren't in lowest terms can be equal without being the same pair.
def equal(one, two):
    return not less(one, two) and not less(two, one)


def best_stands(uses, amounts, gains, plan, prices):
    if not possible(uses, amounts, plan) or not covered(uses, gains, prices):
        return False
    return equal(total(amounts, prices), total(gains, plan))


def none_stands(uses, amounts, gains, weights):
    return covered(uses, [0 for gain in gains], weights) and less(total(amounts, weights), NOUGHT)


# A way uses of no stock more than nought just where it would be a plan with nothing there.
def endless_stands(uses, amounts, gains, plan, way):
    if not possible(uses, amounts, plan) or not possible(uses, [0 for amount in amounts], way):
        return False
    return less(NOUGHT, total(gains, way))


def stands(uses, amounts, gains, answer):
    if answer[0] == "best":
        return best_stands(uses, amounts, gains, answer[1], answer[2])
    if answer[0] == "none":
        return none_stands(uses, amounts, gains, answer[1])
    return endless_stands(uses, amounts, gains, answer[1], answer[2])


def all_turned(numbers):
    return [-number for number in numbers]


def turned(uses, amounts, gains):
    turned_uses = [all_turned(used_by(ware, uses)) for ware in range(len(gains))]
    return (turned_uses, all_turned(gains), all_turned(amounts))
