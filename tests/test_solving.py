import unittest
from copy import deepcopy
from itertools import product

from walks import Numbers, has_form, is_shown, lowest, worth
from wareplan.solving import solved

HIGH = 10 ** 32 - 1


def whole(*numbers):
    return [(number, 1) for number in numbers]


def flat_task(numbers, wares, stocks):
    uses = [list(numbers[stock * wares:(stock + 1) * wares]) for stock in range(stocks)]
    rest = numbers[stocks * wares:]
    return uses, list(rest[:stocks]), list(rest[stocks:])


def all_tasks(wares, stocks, choices):
    for numbers in product(choices, repeat=wares * stocks + wares + stocks):
        yield flat_task(numbers, wares, stocks)


class SolvingCase(unittest.TestCase):
    # What shows an answer of one form shows that none of the other two can be told, so the walk settles the form too.
    def assert_solved(self, uses, amounts, gains, word=None):
        task = (uses, amounts, gains)
        before = deepcopy(task)
        answer = solved(uses, amounts, gains)
        self.assertEqual(task, before)
        self.assertTrue(has_form(uses, gains, answer), (task, answer))
        self.assertTrue(is_shown(uses, amounts, gains, answer), (task, answer))
        if word is not None:
            self.assertEqual(answer[0], word, task)
        return answer

    def assert_worth(self, task, top, bottom=1):
        answer = self.assert_solved(*task, "best")
        self.assertEqual(lowest(*worth(task[2], answer[1])), (top, bottom))
        return answer


class Best(SolvingCase):
    def test_whole_pieces(self):
        answer = self.assert_solved([[1, 0], [0, 2], [3, 2]], [4, 12, 18], [3, 5])
        self.assertEqual(answer, ("best", whole(2, 6), [(0, 1), (3, 2), (1, 1)]))

    def test_parts_of_pieces(self):
        answer = self.assert_solved([[3, 1], [1, 2]], [2, 3], [1, 1])
        self.assertEqual(answer, ("best", [(1, 5), (7, 5)], [(1, 5), (2, 5)]))

    def test_one_ware_and_one_stock(self):
        self.assertEqual(self.assert_solved([[2]], [3], [5]), ("best", [(3, 2)], [(5, 2)]))
        self.assertEqual(self.assert_solved([[2]], [3], [-5]), ("best", whole(0), whole(0)))
        self.assertEqual(self.assert_solved([[-2]], [-3], [-5]), ("best", [(3, 2)], [(5, 2)]))
        self.assertEqual(self.assert_solved([[2]], [0], [5])[:2], ("best", whole(0)))

    def test_amounts_below_nought(self):
        answer = self.assert_solved([[-1, -1], [-1, -3]], [-4, -6], [-2, -3])
        self.assertEqual(answer, ("best", whole(3, 1), [(3, 2), (1, 2)]))
        # At least two pieces are to be made, and the stock is enough for three.
        answer = self.assert_solved([[-1], [2]], [-2, 6], [1])
        self.assertEqual(answer, ("best", whole(3), [(0, 1), (1, 2)]))
        answer = self.assert_solved([[-1], [2]], [-2, 6], [-1])
        self.assertEqual(answer, ("best", whole(2), whole(1, 0)))

    def test_gains_of_nought(self):
        self.assert_worth(([[1, 2], [3, 4]], [5, 6], [0, 0]), 0)
        self.assert_worth(([[-1, -2], [3, 4]], [-1, 6], [0, 0]), 0)

    def test_gains_below_nought(self):
        answer = self.assert_solved([[1, 2], [3, 4]], [5, 6], [-1, -7])
        self.assertEqual(answer, ("best", whole(0, 0), whole(0, 0)))
        self.assert_worth(([[-1, -2], [3, 4]], [-1, 6], [-3, -5]), -5, 2)

    def test_uses_of_nought(self):
        answer = self.assert_solved([[0, 0], [0, 0]], [0, 3], [0, -1])
        self.assertEqual(answer[0], "best")
        self.assert_worth(([[0, 0], [0, 0]], [0, 3], [0, -1]), 0)

    def test_just_the_amount(self):
        self.assertEqual(self.assert_worth(([[1, 1], [-1, -1]], [5, -5], [2, 3]), 15)[1], whole(0, 5))
        self.assertEqual(self.assert_worth(([[1, 1], [-1, -1]], [5, -5], [-2, -3]), -10)[1], whole(5, 0))
        self.assert_worth(([[1, 1], [-1, -1]], [5, -5], [-1, -1]), -5)
        # x + y + z is 6 and x - y is 1.
        task = ([[1, 1, 1], [-1, -1, -1], [1, -1, 0], [-1, 1, 0]], [6, -6, 1, -1], [1, 1, 3])
        self.assertEqual(self.assert_worth(task, 16)[1], whole(1, 0, 5))
        task = (task[0], task[1], [3, 2, 1])
        self.assertEqual(self.assert_worth(task, 31, 2)[1], [(7, 2), (5, 2), (0, 1)])

    def test_a_stock_twice(self):
        self.assert_worth(([[2, 1], [2, 1], [2, 1]], [4, 4, 4], [2, 1]), 4)

    def test_six_wares_and_seven_stocks(self):
        uses = [[int(ware == stock) for ware in range(6)] for stock in range(6)] + [[1] * 6]
        answer = self.assert_worth((uses, [1, 2, 3, 4, 5, 6, 10], [6, 5, 4, 3, 2, 1]), 6 + 10 + 12 + 12)
        self.assertEqual(answer[1], whole(1, 2, 3, 4, 0, 0))

    def test_many_steps(self):
        # The cubes of Klee and Minty: a greedy rule walks through all of their corners.
        for wares in range(1, 7):
            uses = [[2 ** (row - ware + 1) if ware < row else int(ware == row) for ware in range(wares)]
                    for row in range(wares)]
            amounts = [5 ** (row + 1) for row in range(wares)]
            gains = [2 ** (wares - 1 - ware) for ware in range(wares)]
            answer = self.assert_worth((uses, amounts, gains), 5 ** wares)
            self.assertEqual(answer[1], whole(*([0] * (wares - 1)), 5 ** wares))


class NoneAtAll(SolvingCase):
    def test_one_stock(self):
        for use in (0, 1, 5):
            for gain in (-1, 0, 1):
                self.assert_solved([[use]], [-1], [gain], "none")

    def test_two_that_stand_against_each_other(self):
        answer = self.assert_solved([[1], [-1]], [2, -3], [1], "none")
        self.assertEqual(answer[1][0], answer[1][1])
        self.assert_solved([[1, 1], [-1, -1]], [4, -5], [1, -1], "none")
        self.assert_solved([[2, 1], [-1, -2], [1, -1]], [3, -9, 1], [1, 1], "none")

    def test_where_a_way_would_gain(self):
        self.assert_solved([[1, -1], [-1, 1]], [-1, -1], [1, 1], "none")
        self.assert_solved([[0]], [-1], [1], "none")
        self.assert_solved([[-1, 0], [0, 0]], [4, -2], [3, 3], "none")

    def test_uses_of_nought(self):
        self.assert_solved([[0, 0], [0, 0]], [3, -1], [1, 1], "none")

    def test_just_the_amount_of_another_sign(self):
        self.assert_solved([[1, 2], [-1, -2]], [-3, 3], [-1, -1], "none")


class Endless(SolvingCase):
    def test_one_ware_and_one_stock(self):
        self.assert_solved([[0]], [0], [1], "endless")
        self.assert_solved([[-1]], [4], [1], "endless")
        answer = self.assert_solved([[-2]], [-3], [1], "endless")
        self.assertLessEqual(3 * answer[1][0][1], 2 * answer[1][0][0])

    def test_two_wares_of_which_one_brings_what_the_other_uses(self):
        self.assert_solved([[1, -1]], [1], [1, 0], "endless")
        self.assert_solved([[3, -2]], [-7], [5, -3], "endless")
        self.assert_solved([[1, -1], [-1, 1]], [2, -1], [1, 1], "endless")

    def test_just_as_much_is_no_gain(self):
        self.assert_worth(([[1, -1], [-1, 1]], [1, 0], [1, -1]), 1)
        self.assert_worth(([[3, -2]], [0], [2, -3]), 0)

    def test_where_a_plan_of_nought_is_not_possible(self):
        answer = self.assert_solved([[-1, 0], [0, -1], [1, 0]], [-2, -3, 2], [0, 1], "endless")
        self.assertEqual(answer[1][0], (2, 1))
        self.assert_solved([[1, -1], [-1, 1], [-1, -1]], [1, 1, -8], [1, 2], "endless")

    def test_uses_of_nought(self):
        self.assert_solved([[0, 0], [0, 0]], [0, 3], [-1, 1], "endless")


class NoStock(SolvingCase):
    def test_best(self):
        self.assertEqual(solved([], [], [0]), ("best", whole(0), []))
        self.assertEqual(solved([], [], [-4]), ("best", whole(0), []))
        # A ware that gains nought may be made as often as one likes.
        self.assert_solved([], [], [-1, 0, -HIGH, 0, -5, -6], "best")

    def test_endless(self):
        self.assert_solved([], [], [1], "endless")
        self.assert_solved([], [], [-1, 0, HIGH, 0, -5, 2], "endless")

    def test_all_small_gains(self):
        for wares in (1, 2, 3):
            for gains in product((-1, 0, 1), repeat=wares):
                word = "endless" if max(gains) > 0 else "best"
                self.assert_solved([], [], list(gains), word)


# First the tasks that textbooks tell of circles, by Beale, by Kuhn, by Marshall and Suurballe and by Chvatal, brought to
# whole numbers; then two that in these whole numbers run in circles under the rule of the greatest gain, and of equal
# rows the first. The others lead a search of this program's own kind round in circles where it goes by places, or by
# one sort of unknown ahead of the other. With a task stands the best plan's worth, if there is one.
CIRCLES = (
    (([[25, -6000, -4, 900], [50, -9000, -2, 300], [0, 0, 1, 0]], [0, 0, 1], [75, -15000, 2, -600]), 5),
    (([[-2, -9, 1, 9], [1, 3, -1, -6], [2, 3, -1, -12]], [0, 0, 2], [2, 3, -1, -12]), 2),
    (([[6, -64, 48], [2, -18, 6], [4, -16, 2], [0, 1, 0]], [0, 0, 0, 1], [4, 4, -18]), 20),
    (([[1, -11, -5, 18], [1, -3, -1, 2], [1, 0, 0, 0]], [0, 0, 1], [10, -57, -9, -24]), 1),
    (([[-6, -27, 3, 27], [1, 3, -1, -6], [6, 9, -3, -36]], [0, 0, 6], [2, 3, -1, -12]), 2),
    (([[-14, -6, 14, 4], [2, 1, -3, -1]], [0, 0], [2, 2, -8, -2]), 0),
    (([[3, 1], [1, 1]], [1, 0], [-3, 3]), 0),
    (([[2, 1], [-1, 1], [2, 2]], [2, -1, 1], [0, 2]), None),
    (([[3, -2, -1], [1, 2, -3]], [-2, 3], [-2, -1, -2]), -1),
    (([[1, 0, 1, 0, 1], [-1, 0, 0, -1, 1], [1, 1, -1, -1, 1]], [0, -1, 1], [-1, 1, -1, 1, 0]), None),
    (([[-2, 3], [-1, 1], [3, 2], [0, -2]], [-1, -2, 2, 0], [0, -1]), None),
)


def with_places_turned(task):
    uses, amounts, gains = task
    return [row[::-1] for row in uses[::-1]], amounts[::-1], gains[::-1]


class EqualChoices(SolvingCase):
    def test_tasks_known_to_run_in_circles(self):
        for task, value in CIRCLES:
            if value is None:
                self.assert_solved(*task)
            else:
                self.assert_worth(task, value)

    def test_the_same_in_other_orders(self):
        for task, value in CIRCLES:
            word = solved(*task)[0]
            uses, amounts, gains = task
            self.assert_solved(*with_places_turned(task), word)
            for turn in range(len(gains)):
                turned_uses = [row[turn:] + row[:turn] for row in uses]
                self.assert_solved(turned_uses, amounts, gains[turn:] + gains[:turn], word)
            for turn in range(len(amounts)):
                self.assert_solved(uses[turn:] + uses[:turn], amounts[turn:] + amounts[:turn], gains, word)

    def test_amounts_of_nought(self):
        numbers = Numbers(11)
        for _ in range(400):
            uses, amounts, gains = numbers.task(numbers.within(1, 6), numbers.within(1, 7), 2)
            self.assert_solved(uses, [0] * len(amounts), gains)

    def test_equal_rows_and_gains(self):
        numbers = Numbers(12)
        for _ in range(200):
            uses, amounts, gains = numbers.task(3, 3, 2)
            self.assert_solved(uses + uses, amounts + amounts, gains)
            self.assert_solved([row + row for row in uses], amounts, gains + gains)
            self.assert_solved([row + row for row in uses + uses], amounts + amounts, gains + gains)
        for wares in range(1, 7):
            for stocks in range(8):
                for use, amount, gain in product((-1, 0, 1), repeat=3):
                    self.assert_solved([[use] * wares] * stocks, [amount] * stocks, [gain] * wares)


class Walked(SolvingCase):
    def test_all_small_tasks(self):
        words = {}
        grids = [(1, 1, range(-3, 4)), (2, 1, range(-2, 3)), (1, 2, range(-2, 3)), (2, 2, (-1, 0, 1)), (1, 3, (-1, 0, 2))]
        for wares, stocks, choices in grids:
            for task in all_tasks(wares, stocks, choices):
                word = self.assert_solved(*task)[0]
                words[word] = words.get(word, 0) + 1
        self.assertEqual(sorted(words), ["best", "endless", "none"])

    def test_tasks_of_all_sizes(self):
        numbers = Numbers(13)
        words = {}
        for wares in range(1, 7):
            for stocks in range(8):
                for high, noughts in ((1, 3), (2, 0), (2, 2), (9, 0), (9, 4), (1000, 0)):
                    for _ in range(6):
                        word = self.assert_solved(*numbers.task(wares, stocks, high, noughts))[0]
                        words[word] = words.get(word, 0) + 1
        for count in words.values():
            self.assertGreater(count, 100)

    def test_workshops_with_wares_that_only_use(self):
        numbers = Numbers(14)
        for _ in range(100):
            uses = [[numbers.within(0, 9) for _ in range(6)] for _ in range(7)]
            self.assert_solved(uses, [numbers.within(0, 20) for _ in range(7)], [numbers.within(-3, 9) for _ in range(6)])

    def test_just_the_amounts(self):
        numbers = Numbers(15)
        for _ in range(150):
            uses, amounts, gains = numbers.task(numbers.within(1, 6), 3, 3)
            both = uses + [[-use for use in row] for row in uses]
            self.assert_solved(both, amounts + [-amount for amount in amounts], gains)


class LargeNumbers(SolvingCase):
    def test_one_of_each(self):
        self.assertEqual(self.assert_solved([[HIGH]], [HIGH - 1], [HIGH]), ("best", [(HIGH - 1, HIGH)], [(1, 1)]))
        self.assert_solved([[HIGH]], [-HIGH], [HIGH], "none")
        self.assert_solved([[-HIGH]], [-HIGH], [HIGH], "endless")
        # Stocks that differ in the last figure alone.
        self.assert_solved([[HIGH], [-HIGH]], [HIGH - 1, -HIGH], [1], "none")
        self.assert_solved([[HIGH], [-HIGH]], [HIGH, -HIGH], [1], "best")
        self.assert_solved([[HIGH, -HIGH], [1 - HIGH, HIGH - 1]], [1, 1], [HIGH, 1 - HIGH], "endless")
        self.assert_solved([[HIGH, -HIGH], [1 - HIGH, HIGH - 1]], [1, 1], [HIGH, -HIGH], "best")

    def test_six_wares_and_seven_stocks(self):
        numbers = Numbers(16)
        words = {}
        for _ in range(30):
            word = self.assert_solved(*numbers.task(6, 7, HIGH))[0]
            words[word] = True
        self.assertEqual(sorted(words), ["best", "endless", "none"])
        for _ in range(10):
            uses = [[numbers.within(1, HIGH) for _ in range(6)] for _ in range(7)]
            amounts = [numbers.within(1, HIGH) for _ in range(7)]
            self.assert_solved(uses, amounts, [numbers.within(1, HIGH) for _ in range(6)], "best")

    def test_numbers_close_to_one_another(self):
        numbers = Numbers(17)
        for _ in range(10):
            uses = [[numbers.within(HIGH - 3, HIGH) for _ in range(6)] for _ in range(7)]
            amounts = [numbers.within(HIGH - 3, HIGH) for _ in range(7)]
            self.assert_solved(uses, amounts, [numbers.within(HIGH - 3, HIGH) for _ in range(6)], "best")
            self.assert_solved([[-use for use in row] for row in uses], [-amount for amount in amounts], [-HIGH] * 6, "best")

    def test_somewhat_beyond(self):
        numbers = Numbers(18)
        for _ in range(5):
            self.assert_solved(*numbers.task(8, 9, 10 ** 40))


if __name__ == "__main__":
    unittest.main()
