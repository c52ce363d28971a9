import unittest
from copy import deepcopy
from itertools import product

from walks import Numbers, is_shown, lengths, lowest, worth
from wareplan.checking import stands, turned
from wareplan.solving import solved

HIGH = 10 ** 32 - 1


def whole(*numbers):
    return [(number, 1) for number in numbers]


class CheckingCase(unittest.TestCase):
    def check(self, task, answer, wanted):
        before = deepcopy((task, answer))
        told = stands(*task, answer)
        self.assertEqual((task, answer), before)
        self.assertIs(told, wanted, (task, answer))
        # The walk agrees, so that a slip in a test's own figures is seen.
        self.assertEqual(is_shown(*task, answer), wanted)

    def assert_stands(self, task, *answer):
        self.check(task, answer, True)

    def assert_falls(self, task, *answer):
        self.check(task, answer, False)


class Best(CheckingCase):
    task = ([[1, 0], [0, 2], [3, 2]], [4, 12, 18], [3, 5])
    prices = [(0, 1), (3, 2), (1, 1)]

    def test_right(self):
        self.assert_stands(self.task, "best", whole(2, 6), self.prices)
        self.assert_stands(([[3, 1], [1, 2]], [2, 3], [1, 1]), "best", [(1, 5), (7, 5)], [(1, 5), (2, 5)])
        self.assert_stands(([[-1, -1], [-1, -3]], [-4, -6], [-2, -3]), "best", whole(3, 1), [(3, 2), (1, 2)])

    def test_several_plans(self):
        # x + y is at most 4, and both gain the same.
        for plan in (whole(4, 0), whole(0, 4), whole(1, 3), [(1, 2), (7, 2)], [(4, 3), (8, 3)]):
            self.assert_stands(([[1, 1]], [4], [5, 5]), "best", plan, whole(5))
        self.assert_falls(([[1, 1]], [4], [5, 5]), "best", [(1, 2), (10, 3)], whole(5))

    def test_several_prices(self):
        task = ([[1], [1], [2]], [3, 3, 6], [4])
        for prices in (whole(4, 0, 0), whole(0, 4, 0), whole(0, 0, 2), [(4, 3), (4, 3), (2, 3)]):
            self.assert_stands(task, "best", whole(3), prices)
        self.assert_falls(task, "best", whole(3), [(4, 3), (4, 3), (1, 3)])

    def test_plan_not_possible(self):
        # Each uses too much of one stock and has the right worth.
        self.assert_falls(self.task, "best", [(11, 3), (5, 1)], self.prices)
        self.assert_falls(self.task, "best", [(1, 3), (7, 1)], self.prices)
        self.assert_falls(([[1, 0], [0, 1]], [2, 2], [1, 1]), "best", whole(3, 1), whole(1, 1))
        self.assert_falls(([[1, 0], [0, 1]], [2, 2], [1, 1]), "best", whole(1, 3), whole(1, 1))
        self.assert_falls(([[1, 0], [0, 1]], [2, 2], [1, 0]), "best", [(2, 1), (5, 2)], whole(1, 0))

    def test_plan_below_nought(self):
        # Of each of the two, the one more makes up for the one less.
        self.assert_falls(([[1, 1]], [4], [5, 5]), "best", whole(5, -1), whole(5))
        self.assert_falls(([[1, 1]], [4], [5, 5]), "best", whole(-1, 5), whole(5))
        self.assert_falls(([[1, 1]], [4], [5, 5]), "best", [(-1, 3), (13, 3)], whole(5))
        self.assert_falls(([], [], [0, -1]), "best", whole(-1, 0), [])

    def test_price_below_nought(self):
        self.assert_falls(([[1], [1]], [3, 3], [4]), "best", whole(3), whole(5, -1))
        self.assert_falls(([[1], [1]], [3, 3], [4]), "best", whole(3), whole(-1, 5))
        self.assert_falls(([[1], [1]], [3, 3], [4]), "best", whole(3), [(9, 2), (-1, 2)])

    def test_price_too_low_for_some_ware(self):
        # The plan isn't the best one: the prices come to its worth, but one of the wares gains more than it costs.
        self.assert_falls(([[1, 1]], [4], [5, 6]), "best", whole(4, 0), whole(5))
        self.assert_falls(([[1, 1]], [4], [6, 5]), "best", whole(0, 4), whole(5))
        self.assert_falls(self.task, "best", whole(0, 0), whole(0, 0, 0))
        self.assert_falls(self.task, "best", whole(4, 3), [(0, 1), (0, 1), (3, 2)])

    def test_another_worth(self):
        self.assert_falls(self.task, "best", whole(2, 5), self.prices)
        self.assert_falls(self.task, "best", whole(2, 6), [(1, 1), (3, 2), (1, 1)])
        self.assert_falls(self.task, "best", whole(2, 6), [(0, 1), (3, 2), (HIGH + 1, HIGH)])
        self.assert_falls(([[-1]], [-2], [-1]), "best", whole(3), whole(1))
        self.assert_stands(([[-1]], [-2], [-1]), "best", whole(2), whole(1))

    def test_one_and_one(self):
        self.assert_stands(([[2]], [3], [5]), "best", [(3, 2)], [(5, 2)])
        self.assert_falls(([[2]], [3], [5]), "best", [(3, 2)], [(5, 3)])
        self.assert_falls(([[2]], [3], [5]), "best", [(4, 3)], [(5, 2)])
        self.assert_falls(([[2]], [3], [5]), "best", [(5, 3)], [(5, 2)])

    def test_no_stock(self):
        self.assert_stands(([], [], [0]), "best", whole(0), [])
        self.assert_stands(([], [], [0, -1]), "best", [(7, 2), (0, 1)], [])
        self.assert_falls(([], [], [0, -1]), "best", [(7, 2), (1, 1)], [])
        self.assert_falls(([], [], [1]), "best", whole(0), [])
        self.assert_falls(([], [], [1, -1]), "best", whole(1, 1), [])


class NoneAtAll(CheckingCase):
    task = ([[1], [-1]], [2, -3], [1])

    def test_right(self):
        for weights in (whole(1, 1), whole(7, 7), [(2, 3), (2, 3)], [(5, 4), (1, 1)]):
            self.assert_stands(self.task, "none", weights)
        self.assert_stands(([[0]], [-1], [5]), "none", [(1, 9)])
        self.assert_stands(([[1, -1], [-1, 1]], [-1, -1], [1, 1]), "none", whole(1, 1))

    def test_comes_to_nought_and_not_less(self):
        self.assert_falls(self.task, "none", [(3, 2), (1, 1)])
        self.assert_falls(self.task, "none", whole(0, 0))
        self.assert_falls(([[1], [-1]], [2, -2], [1]), "none", whole(1, 1))
        self.assert_stands(self.task, "none", [(3 * HIGH - 1, 2 * HIGH), (1, 1)])

    def test_comes_to_more(self):
        self.assert_falls(self.task, "none", whole(2, 1))
        self.assert_falls(([[1]], [1], [1]), "none", whole(1))

    def test_a_ware_comes_to_less_than_nought(self):
        self.assert_falls(self.task, "none", whole(1, 2))
        self.assert_falls(self.task, "none", [(1, 1), (HIGH + 1, HIGH)])
        # The last ware, or the first, brings what is wanted.
        self.assert_falls(([[0, 0, -1]], [-1], [0, 0, 0]), "none", whole(1))
        self.assert_falls(([[-1, 0, 0]], [-1], [0, 0, 0]), "none", whole(1))
        # By its gains nothing is counted.
        self.assert_stands(([[0, 0]], [-1], [HIGH, -HIGH]), "none", whole(1))

    def test_a_weight_below_nought(self):
        self.assert_falls(([[1], [0]], [-1, 1], [0]), "none", whole(1, -1))
        self.assert_falls(([[0], [0]], [0, 1], [0]), "none", whole(0, -1))
        self.assert_falls(([[0], [0]], [1, 0], [0]), "none", [(-1, 5), (0, 1)])

    def test_no_stock(self):
        self.assert_falls(([], [], [1]), "none", [])
        self.assert_falls(([], [], [-1, 0]), "none", [])


class Endless(CheckingCase):
    task = ([[1, -1], [-1, 0]], [1, -2], [1, 0])

    def test_right(self):
        self.assert_stands(self.task, "endless", whole(2, 1), whole(1, 1))
        self.assert_stands(self.task, "endless", [(5, 2), (99, 1)], [(1, 3), (1, 2)])
        self.assert_stands(([[0]], [0], [1]), "endless", whole(5), [(1, 7)])

    def test_plan_not_possible(self):
        self.assert_falls(self.task, "endless", whole(0, 0), whole(1, 1))
        self.assert_falls(self.task, "endless", [(2, 1), (1, 2)], whole(1, 1))
        self.assert_falls(self.task, "endless", [(HIGH * 2 - 1, HIGH), (1, 1)], whole(1, 1))

    def test_plan_below_nought(self):
        self.assert_falls(([[1, 1]], [0], [-1, 1]), "endless", whole(0, -1), whole(0, 0))
        self.assert_falls(([[0, 0]], [0], [0, 1]), "endless", whole(0, -1), whole(0, 1))
        self.assert_falls(([[0, 0]], [0], [0, 1]), "endless", whole(-1, 0), whole(0, 1))

    def test_way_below_nought(self):
        self.assert_falls(([[1, 1]], [0], [0, 1]), "endless", whole(0, 0), whole(-1, 1))
        self.assert_falls(([[1, 1]], [0], [1, 0]), "endless", whole(0, 0), whole(1, -1))
        self.assert_falls(([[0]], [0], [-1]), "endless", whole(0), [(-1, 2)])

    def test_way_uses_some_stock(self):
        self.assert_falls(self.task, "endless", whole(2, 1), [(1, 1), (HIGH - 1, HIGH)])
        self.assert_falls(([[-1], [1]], [0, 5], [1]), "endless", whole(0), whole(1))
        self.assert_falls(([[1], [-1]], [5, 0], [1]), "endless", whole(0), whole(1))
        # There is enough for the way once, but not without end.
        self.assert_falls(([[1]], [5], [1]), "endless", whole(0), whole(1))

    def test_way_gains_just_nought_or_less(self):
        self.assert_falls(self.task, "endless", whole(2, 1), whole(0, 1))
        self.assert_falls(self.task, "endless", whole(2, 1), whole(0, 0))
        self.assert_falls(([[1, -1]], [0], [1, -1]), "endless", whole(0, 0), whole(1, 1))
        self.assert_falls(([[1, -1]], [0], [1, -2]), "endless", whole(0, 0), whole(1, 1))
        self.assert_stands(([[1, -1]], [0], [2, -1]), "endless", whole(0, 0), whole(1, 1))

    def test_no_stock(self):
        self.assert_stands(([], [], [0, 1]), "endless", whole(0, 0), whole(0, 1))
        self.assert_stands(([], [], [0, 1]), "endless", [(3, 2), (0, 1)], [(5, 1), (1, 8)])
        self.assert_falls(([], [], [0, 1]), "endless", whole(0, 0), whole(1, 0))
        self.assert_falls(([], [], [-1, 1]), "endless", whole(0, 0), whole(1, 1))
        self.assert_falls(([], [], [0, 1]), "endless", whole(0, -1), whole(0, 1))


class ManyFigures(CheckingCase):
    def test_some_hundred_figures_and_more(self):
        for figures in (100, 300, 900, 6000):
            fine = 10 ** figures
            task = ([[1, 1]], [4], [5, 5])
            self.assert_stands(task, "best", [(1, fine), (4 * fine - 1, fine)], whole(5))
            self.assert_falls(task, "best", [(1, fine), (4 * fine + 1, fine)], whole(5))
            self.assert_falls(task, "best", [(-1, fine), (4 * fine + 1, fine)], whole(5))
            self.assert_falls(task, "best", [(1, fine), (4 * fine - 3, fine)], whole(5))
            self.assert_falls(task, "best", whole(4, 0), [(5 * fine + 1, fine)])
            self.assert_falls(task, "best", whole(4, 0), [(5 * fine - 1, fine)])
            task = ([[1], [-1]], [2, -3], [1])
            self.assert_stands(task, "none", whole(fine, fine))
            self.assert_stands(task, "none", [(fine + 1, fine), (1, 1)])
            self.assert_falls(task, "none", [(fine - 1, fine), (1, 1)])
            self.assert_stands(task, "none", [(3 * fine // 2 - 1, fine + 1), (fine, fine + 1)])
            task = ([[1, -1]], [-1], [1, -1])
            self.assert_falls(task, "endless", whole(0, 1), whole(fine, fine))
            task = ([[1, -2]], [-1], [1, -1])
            self.assert_stands(task, "endless", [(1, fine), (fine + 1, 2 * fine)], [(fine + 1, 1), (fine, 1)])
            self.assert_falls(task, "endless", [(1, fine), (fine - 1, 2 * fine)], [(fine + 1, 1), (fine, 1)])
            self.assert_falls(task, "endless", whole(0, 1), [(2 * fine + 1, fine), (1, 1)])

    def test_bottoms_without_common_divisor(self):
        # Six parts with nothing in common come together to just the amount.
        bottoms = [prime ** 200 for prime in (2, 3, 5, 7, 11)]
        plan = [(1, bottom) for bottom in bottoms]
        rest_top, rest_bottom = worth([-1] * 5, plan)
        last = lowest(rest_bottom * 9 + rest_top, rest_bottom)
        task = ([[1] * 6, [-1] * 6], [9, -9], [1] * 6)
        self.assert_stands(task, "best", plan + [last], whole(1, 0))
        more = lowest(last[0] * HIGH + 1, last[1] * HIGH)
        self.assert_falls(task, "best", plan + [more], whole(1, 0))
        less = lowest(last[0] * HIGH - 1, last[1] * HIGH)
        self.assert_falls(task, "best", plan + [less], whole(1, 0))


class Walked(CheckingCase):
    def check_some(self, numbers, task, high):
        uses, amounts, gains = task
        for word in ("best", "none", "endless"):
            lists = [[numbers.fraction(high) for _ in range(count)] for count in lengths(uses, gains, word)]
            answer = (word, *[[(abs(top) if numbers.below(4) else top, bottom) for top, bottom in one] for one in lists])
            self.assertIs(stands(*task, answer), is_shown(*task, answer), (task, answer))

    def test_some_answers_of_small_tasks(self):
        numbers = Numbers(21)
        for _ in range(1500):
            task = numbers.task(numbers.within(1, 3), numbers.within(0, 3), 2, 3)
            self.check_some(numbers, task, 1)
            self.check_some(numbers, task, 2)

    def test_all_answers_of_small_numbers(self):
        parts = [(0, 1), (1, 2), (1, 1), (2, 1), (-1, 1)]
        for use, amount, gain in product(range(-2, 3), repeat=3):
            task = ([[use]], [amount], [gain])
            for one, two in product(parts, repeat=2):
                for answer in (("best", [one], [two]), ("endless", [one], [two]), ("none", [one])):
                    self.assertIs(stands(*task, answer), is_shown(*task, answer), (task, answer))

    def test_answers_of_the_program_and_those_beside_them(self):
        numbers = Numbers(22)
        for high in (2, 9, HIGH):
            for _ in range(60):
                task = numbers.task(numbers.within(1, 6), numbers.within(0, 7), high, 4)
                answer = solved(*task)
                self.assertIs(stands(*task, answer), True)
                for k, one in enumerate(answer[1:], 1):
                    for place, (top, bottom) in enumerate(one):
                        for step in (-bottom, bottom, -1, 1):
                            changed = one[:place] + [lowest(top + step, bottom)] + one[place + 1:]
                            other = answer[:k] + (changed,) + answer[k + 1:]
                            self.assertIs(stands(*task, other), is_shown(*task, other), (task, other))


class Turned(CheckingCase):
    def check_turned(self, task, wanted):
        before = deepcopy(task)
        told = turned(*task)
        self.assertEqual(task, before)
        self.assertIs(type(told), tuple)
        self.assertEqual(told, wanted)
        self.assertEqual([type(part) for part in told], [list] * 3)
        self.assertEqual(turned(*told), task)

    def test_as_many_stocks_as_wares(self):
        self.check_turned(([[1, 2], [3, -4]], [5, -6], [7, 0]), ([[-1, -3], [-2, 4]], [-7, 0], [-5, 6]))
        self.check_turned(([[3]], [-4], [5]), ([[-3]], [-5], [4]))

    def test_fewer_stocks(self):
        self.check_turned(([[1, -2, 3]], [4], [5, 6, -7]), ([[-1], [2], [-3]], [-5, -6, 7], [-4]))

    def test_more_stocks(self):
        task = ([[1, 2], [-3, 4], [5, 0]], [1, -2, 3], [8, -9])
        self.check_turned(task, ([[-1, 3, -5], [-2, -4, 0]], [-8, 9], [-1, 2, -3]))

    def test_large(self):
        self.check_turned(([[HIGH], [-HIGH]], [HIGH, 0], [-HIGH]), ([[-HIGH, HIGH]], [HIGH], [-HIGH, 0]))

    def test_turned_twice_is_the_task(self):
        numbers = Numbers(23)
        for wares in range(1, 8):
            for stocks in range(1, 9):
                task = numbers.task(wares, stocks, 99)
                told = turned(*task)
                self.assertEqual([len(row) for row in told[0]], [stocks] * wares)
                self.assertEqual((len(told[1]), len(told[2])), (wares, stocks))
                self.assertEqual(turned(*told), task)

    # Words that may stand together: best with best, endless with none, none with endless or none.
    def check_pair(self, task):
        other = turned(*task)
        one, two = solved(*task), solved(*other)
        pair = (one[0], two[0])
        self.assertIn(pair, [("best", "best"), ("endless", "none"), ("none", "endless"), ("none", "none")], task)
        if pair == ("best", "best"):
            top, bottom = worth(task[2], one[1])
            other_top, other_bottom = worth(other[2], two[1])
            self.assertEqual(top * other_bottom + other_top * bottom, 0, task)
            # The one's plan is the other's prices.
            self.assertIs(stands(*other, ("best", one[2], one[1])), True)
            self.assertIs(stands(*task, ("best", two[2], two[1])), True)
        if pair == ("endless", "none"):
            self.assertIs(stands(*other, ("none", one[2])), True)
        return pair

    def test_both_tasks_belong_together(self):
        numbers = Numbers(24)
        pairs = {}
        for high, noughts in ((1, 0), (1, 2), (3, 3), (20, 0)):
            for _ in range(250):
                pair = self.check_pair(numbers.task(numbers.within(1, 6), numbers.within(1, 7), high, noughts))
                pairs[pair] = True
        self.assertEqual(len(pairs), 4)
        for _ in range(10):
            self.check_pair(numbers.task(6, 7, HIGH))
        self.assertEqual(self.check_pair(([[1, -1], [-1, 1]], [-1, -1], [1, 1])), ("none", "none"))


class OtherAmounts(CheckingCase):
    def check_prices(self, task, prices, amounts):
        answer = solved(task[0], amounts, task[2])
        self.assertIn(answer[0], ("best", "none"), (task, amounts))
        if answer[0] == "best":
            top, bottom = worth(task[2], answer[1])
            cost, price_bottom = worth(amounts, prices)
            self.assertLessEqual(top * price_bottom, cost * bottom, (task, amounts))

    def test_worked_by_hand(self):
        task = ([[1, 0], [0, 2], [3, 2]], [4, 12, 18], [3, 5])
        prices = solved(*task)[2]
        self.assertEqual(prices, [(0, 1), (3, 2), (1, 1)])
        # One piece more of the second or the third stock is worth just its price, but not without end.
        for amounts, top, bottom in (([4, 13, 18], 75, 2), ([4, 12, 19], 37, 1), ([9, 12, 18], 36, 1),
                                     ([4, 12, 99], 42, 1), ([4, 99, 18], 45, 1), ([0, 0, 0], 0, 1)):
            answer = solved(task[0], amounts, task[2])
            self.assertEqual(lowest(*worth(task[2], answer[1])), (top, bottom))
            self.check_prices(task, prices, amounts)

    def test_prices_against_other_amounts(self):
        numbers = Numbers(25)
        seen = 0
        for _ in range(200):
            task = numbers.task(numbers.within(1, 4), numbers.within(1, 5), 3, 4)
            answer = solved(*task)
            if answer[0] == "best":
                seen += 1
                for _ in range(6):
                    self.check_prices(task, answer[2], [numbers.within(-5, 5) for _ in task[1]])
                for place in range(len(task[1])):
                    for step in (-1, 1):
                        near = [amount + step * (k == place) for k, amount in enumerate(task[1])]
                        self.check_prices(task, answer[2], near)
        self.assertGreater(seen, 40)


if __name__ == "__main__":
    unittest.main()
