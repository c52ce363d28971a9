"""Tasks and answers walked by whole sums of products, without the program's own fractions and checks."""

from math import gcd, prod


# Pseudo-random whole numbers that come the same each time.
class Numbers:
    def __init__(self, seed):
        self.state = seed

    def below(self, bound):
        value = 0
        for _ in range(5):
            self.state = (self.state * 6364136223846793005 + 1442695040888963407) % 2 ** 64
            value = value * 2 ** 32 + self.state // 2 ** 32
        return value % bound

    def within(self, low, high):
        return low + self.below(high - low + 1)

    def fraction(self, high):
        return lowest(self.within(-high, high), self.within(1, high))

    # One number in so many is nought on purpose, so that choices stand equal.
    def task(self, wares, stocks, high, noughts=0):
        def number():
            if noughts and self.below(noughts) == 0:
                return 0
            return self.within(-high, high)
        uses = [[number() for _ in range(wares)] for _ in range(stocks)]
        return uses, [number() for _ in range(stocks)], [number() for _ in range(wares)]


def lowest(top, bottom):
    divisor = gcd(top, bottom)
    return (top // divisor, bottom // divisor)


def is_fraction(value):
    if type(value) is not tuple or [type(part) for part in value] != [int, int]:
        return False
    return value[1] > 0 and gcd(value[0], value[1]) == 1


def are_fractions(values, count):
    return type(values) is list and len(values) == count and all(is_fraction(value) for value in values)


def over_one_bottom(fractions):
    bottom = prod(fraction[1] for fraction in fractions)
    return [fraction[0] * (bottom // fraction[1]) for fraction in fractions], bottom


def product_sum(numbers, others):
    assert len(numbers) == len(others)
    return sum(one * two for one, two in zip(numbers, others))


# The sum of products as a pair: a top, and a bottom above nought.
def worth(numbers, fractions):
    tops, bottom = over_one_bottom(fractions)
    return product_sum(numbers, tops), bottom


def is_possible(uses, amounts, plan):
    tops, bottom = over_one_bottom(plan)
    within = [product_sum(row, tops) <= amount * bottom for row, amount in zip(uses, amounts, strict=True)]
    return min(tops) >= 0 and all(within)


def is_covered(uses, bounds, fractions):
    tops, bottom = over_one_bottom(fractions)
    sums = [product_sum([row[ware] for row in uses], tops) for ware in range(len(bounds))]
    return min(tops, default=0) >= 0 and all(one >= bound * bottom for one, bound in zip(sums, bounds))


def is_best(uses, amounts, gains, plan, prices):
    gained, plan_bottom = worth(gains, plan)
    cost, price_bottom = worth(amounts, prices)
    balanced = gained * price_bottom == cost * plan_bottom
    return is_possible(uses, amounts, plan) and is_covered(uses, gains, prices) and balanced


def is_none(uses, amounts, gains, weights):
    return is_covered(uses, [0] * len(gains), weights) and worth(amounts, weights)[0] < 0


def is_endless(uses, amounts, gains, plan, way):
    free = is_possible(uses, [0] * len(amounts), way)
    return is_possible(uses, amounts, plan) and free and worth(gains, way)[0] > 0


def is_shown(uses, amounts, gains, answer):
    walk = {"best": is_best, "none": is_none, "endless": is_endless}[answer[0]]
    return walk(uses, amounts, gains, *answer[1:])


# As many fractions as each list of an answer has, by the answer's first word.
def lengths(uses, gains, word):
    return {"best": [len(gains), len(uses)], "none": [len(uses)], "endless": [len(gains), len(gains)]}[word]


def has_form(uses, gains, answer):
    if type(answer) is not tuple or answer[0] not in ("best", "none", "endless"):
        return False
    counts = lengths(uses, gains, answer[0])
    if len(answer) != 1 + len(counts):
        return False
    return all(are_fractions(values, count) for values, count in zip(answer[1:], counts))
