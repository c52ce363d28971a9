import unittest
from copy import deepcopy
from fractions import Fraction

from walks import Numbers, are_fractions, is_fraction
from wareplan.sheets import after_changes

HIGH = 10 ** 32 - 1


def whole(*numbers):
    return [(number, 1) for number in numbers]


def exact(fraction):
    return Fraction(fraction[0], fraction[1])


def line_sum(base, row, numbers):
    return exact(base) + sum(exact(part) * number for part, number in zip(row, numbers, strict=True))


# An unknown's number is in the dict under its name; the goal's is handed in beside it.
def fits(sheet, numbers, goal):
    inner, outer, bases, rows, base, gains = sheet
    at = [numbers[unknown] for unknown in outer]
    told = [line_sum(*pair, at) for pair in zip(bases, rows, strict=True)]
    return told == [numbers[unknown] for unknown in inner] and line_sum(base, gains, at) == goal


# Another way round than the program's: each part alone, by the product across the corner.
def changed_by_hand(sheet, row, place):
    inner, outer, bases, rows, base, gains = sheet
    corner = rows[row][place]
    if corner == 0:
        return sheet
    table = [[one, *parts] for one, parts in zip([*bases, base], [*rows, gains])]
    spot = place + 1
    new = [[one[k] - one[spot] * table[row][k] / corner for k in range(len(one))] for one in table]
    new[row] = [-part / corner for part in table[row]]
    for k, one in enumerate(table):
        new[k][spot] = one[spot] / corner
    new[row][spot] = 1 / corner
    inner, outer = list(inner), list(outer)
    inner[row], outer[place] = outer[place], inner[row]
    parts = [one[1:] for one in new]
    return inner, outer, [one[0] for one in new[:-1]], parts[:-1], new[-1][0], parts[-1]


def all_by_hand(inner, outer, bases, rows, gains, changes):
    exact_rows = [[exact(part) for part in row] for row in rows]
    sheet = (inner, outer, [exact(base) for base in bases], exact_rows, Fraction(0), [exact(gain) for gain in gains])
    for row, place in changes:
        sheet = changed_by_hand(sheet, row, place)
    return sheet


def as_exact(sheet):
    inner, outer, bases, rows, base, gains = sheet
    exact_rows = [[exact(part) for part in row] for row in rows]
    return inner, outer, [exact(one) for one in bases], exact_rows, exact(base), [exact(gain) for gain in gains]


def some_sheet(numbers, inners, outers, high):
    names = list(range(inners + outers))
    order = []
    while names:
        order.append(names.pop(numbers.below(len(names))))
    bases = [numbers.fraction(high) for _ in range(inners)]
    rows = [[numbers.fraction(high) for _ in range(outers)] for _ in range(inners)]
    return order[:inners], order[inners:], bases, rows, [numbers.fraction(high) for _ in range(outers)]


def some_changes(numbers, inners, outers, count):
    return [(numbers.below(inners), numbers.below(outers)) for _ in range(count)]


class SheetCase(unittest.TestCase):
    def assert_form(self, told, inners, outers):
        self.assertIs(type(told), tuple)
        self.assertEqual(len(told), 6)
        inner, outer, bases, rows, base, gains = told
        self.assertIs(type(inner), list)
        self.assertIs(type(outer), list)
        self.assertEqual((len(inner), len(outer)), (inners, outers))
        self.assertTrue(are_fractions(bases, inners))
        self.assertIs(type(rows), list)
        self.assertEqual(len(rows), inners)
        for row in rows:
            self.assertTrue(are_fractions(row, outers))
        self.assertTrue(is_fraction(base))
        self.assertTrue(are_fractions(gains, outers))

    # Points enough to tell every fraction of the sheet: all outer ones nought, and each of them one by itself.
    def assert_fits(self, first, told):
        inner, outer, bases, rows, gains = first
        count = len(outer)
        points = [[int(k == one) for k in range(count)] for one in range(count + 1)]
        points.append([Fraction(3 * k - 4, k + 2) for k in range(count)])
        for at in points:
            numbers = dict(zip(outer, at))
            for unknown, base, row in zip(inner, bases, rows):
                numbers[unknown] = line_sum(base, row, at)
            goal = line_sum((0, 1), gains, at)
            self.assertTrue(fits(told, numbers, goal))
            self.assertFalse(fits(told, numbers, goal + 1))
            self.assertFalse(fits(told, {**numbers, inner[0]: numbers[inner[0]] + 1}, goal))

    def assert_right(self, first, changes):
        before = deepcopy((first, changes))
        told = after_changes(*first, changes)
        self.assertEqual((first, changes), before)
        self.assert_form(told, len(first[0]), len(first[1]))
        self.assertEqual(as_exact(told), all_by_hand(*first, changes))
        return told


class WorkedByHand(SheetCase):
    def test_no_changes(self):
        first = ([2, 3], [0, 1], whole(4, -6), [[(1, 2), (-3, 1)], whole(0, 7)], [(5, 1), (-2, 3)])
        told = after_changes(*first, [])
        wanted = ([2, 3], [0, 1], whole(4, -6), [[(1, 2), (-3, 1)], whole(0, 7)], (0, 1), [(5, 1), (-2, 3)])
        self.assertEqual(told, wanted)
        self.assert_form(told, 2, 2)

    def test_one_change(self):
        # x2 = 4 + 2 x0 - 3 x1, so x0 = -2 + 1/2 x2 + 3/2 x1.
        told = after_changes([2], [0, 1], whole(4), [whole(2, -3)], whole(5, 7), [(0, 0)])
        wanted = ([0], [2, 1], whole(-2), [[(1, 2), (3, 2)]], (-10, 1), [(5, 2), (29, 2)])
        self.assertEqual(told, wanted)
        # x1 = 4/3 + 2/3 x0 - 1/3 x2.
        told = after_changes([2], [0, 1], whole(4), [whole(2, -3)], whole(5, 7), [(0, 1)])
        wanted = ([1], [0, 2], [(4, 3)], [[(2, 3), (-1, 3)]], (28, 3), [(29, 3), (-7, 3)])
        self.assertEqual(told, wanted)

    def test_one_change_among_several_rows(self):
        # x11 = 2 - x20 + 3 x21, x12 = 5 + 2 x20 + x21, x13 = 1 + 4 x21; the second changes with x20.
        first = ([11, 12, 13], [20, 21], whole(2, 5, 1), [whole(-1, 3), whole(2, 1), whole(0, 4)], whole(6, 1))
        told = after_changes(*first, [(1, 0)])
        rows = [[(-1, 2), (7, 2)], [(1, 2), (-1, 2)], whole(0, 4)]
        self.assertEqual(told, ([11, 20, 13], [12, 21], [(9, 2), (-5, 2), (1, 1)], rows, (-15, 1), whole(3, -2)))

    def test_several_changes_of_a_task(self):
        # What is left of three stocks: 4 - x, 12 - 2y, 18 - 3x - 2y; the goal 3x + 5y. The best plan's sheet.
        rows = [whole(-1, 0), whole(0, -2), whole(-3, -2)]
        told = after_changes([2, 3, 4], [0, 1], whole(4, 12, 18), rows, whole(3, 5), [(1, 1), (2, 0)])
        new_rows = [[(1, 3), (-1, 3)], [(0, 1), (-1, 2)], [(-1, 3), (1, 3)]]
        self.assertEqual(told, ([2, 1, 0], [4, 3], whole(2, 6, 2), new_rows, (36, 1), [(-1, 1), (-3, 2)]))

    def test_changes_are_done_one_after_the_other(self):
        first = ([2, 3], [0, 1], whole(1, 2), [whole(1, 2), whole(3, 4)], whole(1, 1))
        told = after_changes(*first, [(0, 0), (1, 1)])
        # x0 = -1 + x2 - 2 x1 and x3 = -1 + 3 x2 - 2 x1, so x1 = -1/2 + 3/2 x2 - 1/2 x3.
        self.assertEqual(told[:2], ([0, 1], [2, 3]))
        self.assertEqual(told[2:4], ([(0, 1), (-1, 2)], [[(-2, 1), (1, 1)], [(3, 2), (-1, 2)]]))
        self.assertEqual(told[4:], ((-1, 2), [(-1, 2), (1, 2)]))

    def test_one_of_each(self):
        told = after_changes([1], [0], whole(6), [whole(-4)], whole(10), [(0, 0)])
        self.assertEqual(told, ([0], [1], [(3, 2)], [[(-1, 4)]], (15, 1), [(-5, 2)]))
        told = after_changes([1], [0], whole(6), [whole(0)], whole(10), [(0, 0)])
        self.assertEqual(told, ([1], [0], whole(6), [whole(0)], (0, 1), whole(10)))

    def test_names_may_be_any_whole_numbers(self):
        told = after_changes([-5], [10 ** 40, 0], whole(1), [whole(1, 1)], whole(0, 0), [(0, 1)])
        self.assertEqual(told, ([0], [10 ** 40, -5], whole(-1), [whole(-1, 1)], (0, 1), whole(0, 0)))

    def test_sides_without_unknowns(self):
        self.assertEqual(after_changes([], [4], [], [], whole(3), []), ([], [4], [], [], (0, 1), whole(3)))
        self.assertEqual(after_changes([4], [], whole(3), [[]], [], []), ([4], [], whole(3), [[]], (0, 1), []))


class PassedBy(SheetCase):
    first = ([2, 3], [0, 1], whole(4, 5), [whole(0, 2), whole(3, 1)], whole(1, 1))

    def test_over_nought(self):
        told = after_changes(*self.first, [(0, 0)])
        self.assertEqual(told, after_changes(*self.first, []))

    def test_those_behind_are_still_done(self):
        told = after_changes(*self.first, [(0, 0), (0, 1), (0, 0), (1, 0)])
        self.assertEqual(told, after_changes(*self.first, [(0, 1), (1, 0)]))
        self.assertEqual(told[:2], ([1, 0], [3, 2]))

    def test_nought_that_came_by_a_change(self):
        # x3 = 5 + 2 x0 + 4 x1 is 5 + 2 x2 behind the change, and has nought for x1.
        first = ([2, 3], [0, 1], whole(0, 5), [whole(1, 2), whole(2, 4)], whole(1, 0))
        told = after_changes(*first, [(0, 0), (1, 1)])
        self.assertEqual(told, ([0, 3], [2, 1], whole(0, 5), [whole(1, -2), whole(2, 0)], (0, 1), whole(1, -2)))

    def test_a_place_that_is_no_longer_nought(self):
        first = ([2, 3], [0, 1], whole(4, 5), [whole(1, 1), whole(0, 2)], whole(1, 1))
        told = after_changes(*first, [(0, 1), (1, 0)])
        self.assertEqual(told[:2], ([1, 0], [3, 2]))
        self.assert_right(first, [(0, 1), (1, 0)])

    def test_all_of_them(self):
        first = ([2, 3], [0, 1], whole(4, 5), [whole(0, 0), whole(0, 0)], whole(1, 1))
        changes = [(row, place) for row in range(2) for place in range(2)] * 5
        self.assertEqual(after_changes(*first, changes), after_changes(*first, []))


class Twice(SheetCase):
    def test_the_first_sheet_comes_back(self):
        numbers = Numbers(1)
        for high in (1, 3, 9, 1000):
            for _ in range(40):
                inners, outers = numbers.within(1, 5), numbers.within(1, 5)
                first = some_sheet(numbers, inners, outers, high)
                change = some_changes(numbers, inners, outers, 1)
                self.assertEqual(after_changes(*first, change * 2), after_changes(*first, []))

    def test_behind_other_changes(self):
        numbers = Numbers(2)
        for _ in range(60):
            first = some_sheet(numbers, 4, 3, 5)
            changes = some_changes(numbers, 4, 3, 3)
            self.assertEqual(after_changes(*first, changes + changes[-1:] * 2), after_changes(*first, changes))
            self.assertEqual(after_changes(*first, changes + changes[::-1]), after_changes(*first, []))


class AllFits(SheetCase):
    def test_small_sheets(self):
        numbers = Numbers(3)
        for inners in range(1, 5):
            for outers in range(1, 5):
                for count in (0, 1, 2, 5):
                    for high in (1, 2, 7):
                        first = some_sheet(numbers, inners, outers, high)
                        told = self.assert_right(first, some_changes(numbers, inners, outers, count))
                        self.assert_fits(first, told)

    def test_seven_of_each_and_twenty_two_changes(self):
        numbers = Numbers(4)
        for high in (1, 2, 9, 99):
            for _ in range(5):
                first = some_sheet(numbers, 7, 7, high)
                told = self.assert_right(first, some_changes(numbers, 7, 7, 22))
                self.assert_fits(first, told)

    def test_thirteen_and_one(self):
        numbers = Numbers(5)
        for inners, outers in ((13, 1), (1, 13), (6, 8), (8, 6)):
            first = some_sheet(numbers, inners, outers, 9)
            self.assert_fits(first, self.assert_right(first, some_changes(numbers, inners, outers, 22)))

    def test_thirty_two_figures(self):
        numbers = Numbers(6)
        for inners, outers in ((1, 1), (2, 3), (3, 3)):
            first = some_sheet(numbers, inners, outers, HIGH)
            self.assert_fits(first, self.assert_right(first, some_changes(numbers, inners, outers, 6)))
        edge = ([1], [0], [(HIGH, HIGH - 1)], [[(-HIGH, HIGH - 1)]], [(HIGH - 1, HIGH)])
        told = self.assert_right(edge, [(0, 0)])
        self.assertEqual(told, ([0], [1], [(1, 1)], [[(1 - HIGH, HIGH)]], (HIGH - 1, HIGH), [(-(HIGH - 1) ** 2, HIGH ** 2)]))

    def test_thirty_two_figures_seven_of_each_and_twenty_two_changes(self):
        numbers = Numbers(7)
        first = some_sheet(numbers, 7, 7, HIGH)
        changes = [(k, k) for k in range(7)] + some_changes(numbers, 7, 7, 15)
        self.assert_fits(first, self.assert_right(first, changes))

    def test_somewhat_beyond(self):
        numbers = Numbers(8)
        first = some_sheet(numbers, 9, 8, 20)
        self.assert_fits(first, self.assert_right(first, some_changes(numbers, 9, 8, 30)))


class HandedIn(SheetCase):
    def test_stays_as_it_was(self):
        rows = [whole(-1, 0), whole(0, -2), whole(-3, -2)]
        handed = ([2, 3, 4], [0, 1], whole(4, 12, 18), rows, whole(3, 5), [(0, 1), (1, 1), (2, 0)])
        before = deepcopy(handed)
        after_changes(*handed)
        self.assertEqual(handed, before)
        after_changes(*handed[:5], [])
        self.assertEqual(handed, before)


if __name__ == "__main__":
    unittest.main()
