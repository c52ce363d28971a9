import unittest
from math import gcd

from wareplan.errors import NoFraction, PlanError
from wareplan.fractions import less, made, over, plus, times

BIG = 10 ** 31 + 33
BIGGER = 98765432109876543210987654321098
BEYOND = 7 ** 60


def small_fractions():
    return [(top, bottom) for top in range(-7, 8) for bottom in range(1, 8) if gcd(top, bottom) == 1]


def large_fractions():
    pairs = [
        (BIG, 1), (BIG, BIGGER), (BIGGER, BIG), (BIG + 1, BIG), (BIG - 1, BIG),
        (BEYOND, BIG), (1, BIGGER), (1, BEYOND), (2 ** 100, 3 ** 63), (3 ** 63, 2 ** 100),
    ]
    whole = [(top // gcd(top, bottom), bottom // gcd(top, bottom)) for top, bottom in pairs]
    return whole + [(-top, bottom) for top, bottom in whole]


def all_fractions():
    return small_fractions() + large_fractions()


class FractionCase(unittest.TestCase):
    def assert_fraction(self, value):
        self.assertIs(type(value), tuple)
        self.assertEqual(len(value), 2)
        self.assertIs(type(value[0]), int)
        self.assertIs(type(value[1]), int)
        self.assertGreater(value[1], 0)
        self.assertEqual(gcd(value[0], value[1]), 1)

    def assert_comes_to(self, value, top, bottom):
        self.assert_fraction(value)
        self.assertEqual(value[0] * bottom, top * value[1])


class Made(FractionCase):
    def test_written_out(self):
        self.assertEqual(made(3, 4), (3, 4))
        self.assertEqual(made(4, 2), (2, 1))
        self.assertEqual(made(6, 4), (3, 2))
        self.assertEqual(made(-6, 4), (-3, 2))
        self.assertEqual(made(6, -4), (-3, 2))
        self.assertEqual(made(-6, -4), (3, 2))
        self.assertEqual(made(5, -1), (-5, 1))
        self.assertEqual(made(-5, -5), (1, 1))

    def test_nought_over_whatever_bottom(self):
        for bottom in (1, -1, 2, -2, 12, -12, BIG, -BIG, BEYOND, -BEYOND):
            self.assertEqual(made(0, bottom), (0, 1))
            self.assert_fraction(made(0, bottom))

    def test_over_nought_is_refused(self):
        for top in (0, 1, -1, BIG, -BIG):
            with self.assertRaises(NoFraction):
                made(top, 0)
            with self.assertRaises(PlanError):
                made(top, 0)

    def test_small_tops_and_bottoms(self):
        for top in range(-30, 31):
            for bottom in range(-30, 31):
                if bottom != 0:
                    self.assert_comes_to(made(top, bottom), top, bottom)

    def test_large_tops_and_bottoms(self):
        numbers = (1, 6, BIG, BIG * 6, BIGGER, BIGGER * BIG, BEYOND, 2 ** 300)
        for top in numbers:
            for bottom in numbers:
                for sign in (1, -1):
                    for turn in (1, -1):
                        self.assert_comes_to(made(sign * top, turn * bottom), sign * top, turn * bottom)

    def test_large_common_divisors_are_taken_out(self):
        self.assertEqual(made(BIG * 6, BIG * 4), (3, 2))
        self.assertEqual(made(-BIG * 6, BIG * 4), (-3, 2))
        self.assertEqual(made(BIGGER * BEYOND, -BEYOND), (-BIGGER, 1))
        self.assertEqual(made(BEYOND, BEYOND * BIGGER), (1, BIGGER))

    def test_each_number_has_one_fraction(self):
        for fraction in all_fractions():
            for factor in (1, -1, 12, -35, BIG):
                self.assertEqual(made(fraction[0] * factor, fraction[1] * factor), fraction)


class Sums(FractionCase):
    def test_written_out(self):
        self.assertEqual(plus((1, 2), (1, 3)), (5, 6))
        self.assertEqual(plus((1, 6), (1, 3)), (1, 2))
        self.assertEqual(plus((1, 2), (-1, 2)), (0, 1))
        self.assertEqual(plus((-7, 2), (1, 2)), (-3, 1))
        self.assertEqual(plus((0, 1), (0, 1)), (0, 1))
        self.assertEqual(plus((BIG, 2), (BIG, 2)), (BIG, 1))

    def test_comes_to_the_sum(self):
        for one in all_fractions():
            for two in all_fractions():
                value = plus(one, two)
                self.assert_comes_to(value, one[0] * two[1] + two[0] * one[1], one[1] * two[1])

    def test_nought_changes_nothing(self):
        for one in all_fractions():
            self.assertEqual(plus(one, (0, 1)), one)
            self.assertEqual(plus((0, 1), one), one)
            self.assertEqual(plus(one, (-one[0], one[1])), (0, 1))


class Products(FractionCase):
    def test_written_out(self):
        self.assertEqual(times((2, 3), (3, 4)), (1, 2))
        self.assertEqual(times((-2, 3), (3, 2)), (-1, 1))
        self.assertEqual(times((-2, 3), (-3, 4)), (1, 2))
        self.assertEqual(times((0, 1), (-3, 4)), (0, 1))
        self.assertEqual(times((BIG, BIGGER), (0, 1)), (0, 1))

    def test_comes_to_the_product(self):
        for one in all_fractions():
            for two in all_fractions():
                self.assert_comes_to(times(one, two), one[0] * two[0], one[1] * two[1])


class Quotients(FractionCase):
    def test_written_out(self):
        self.assertEqual(over((1, 2), (3, 4)), (2, 3))
        self.assertEqual(over((1, 2), (-3, 4)), (-2, 3))
        self.assertEqual(over((-1, 2), (-3, 4)), (2, 3))
        self.assertEqual(over((-3, 1), (-1, 1)), (3, 1))
        self.assertEqual(over((0, 1), (-5, 7)), (0, 1))
        self.assertEqual(over((1, 1), (BIG, 1)), (1, BIG))

    def test_comes_to_the_quotient_and_refuses_by_nought_alone(self):
        for one in all_fractions():
            for two in all_fractions():
                if two == (0, 1):
                    with self.assertRaises(NoFraction):
                        over(one, two)
                else:
                    value = over(one, two)
                    self.assert_comes_to(value, one[0] * two[1], one[1] * two[0])
                    self.assertEqual(times(value, two), one)

    def test_nought_by_nought_is_refused(self):
        with self.assertRaises(NoFraction):
            over((0, 1), (0, 1))


class Order(unittest.TestCase):
    def test_written_out(self):
        self.assertIs(less((1, 3), (1, 2)), True)
        self.assertIs(less((1, 2), (1, 3)), False)
        self.assertIs(less((1, 2), (1, 2)), False)
        self.assertIs(less((-1, 2), (-1, 3)), True)
        self.assertIs(less((-1, 3), (-1, 2)), False)
        self.assertIs(less((-1, 2), (0, 1)), True)
        self.assertIs(less((0, 1), (-1, 2)), False)
        self.assertIs(less((0, 1), (0, 1)), False)
        self.assertIs(less((-5, 1), (1, 7)), True)

    def test_small_ones_against_numbers_on_one_bottom(self):
        # 420 is a multiple of every small bottom, so the tops over it tell the order.
        for one in small_fractions():
            for two in small_fractions():
                wanted = one[0] * (420 // one[1]) < two[0] * (420 // two[1])
                self.assertIs(less(one, two), wanted)

    def test_large_ones_that_differ_little(self):
        # n/(n+1) grows with n, by less and less.
        for number in (BIG, BIGGER, BEYOND):
            lower = (number, number + 1)
            upper = (number + 1, number + 2)
            self.assertIs(less(lower, upper), True)
            self.assertIs(less(upper, lower), False)
            self.assertIs(less(lower, lower), False)
            self.assertIs(less((-number, number + 1), (-number - 1, number + 2)), False)
            self.assertIs(less((-number - 1, number + 2), (-number, number + 1)), True)
            self.assertIs(less(lower, (1, 1)), True)
            self.assertIs(less((number, 1), (number + 1, 1)), True)
            self.assertIs(less((0, 1), (1, number)), True)
            self.assertIs(less((-1, number), (0, 1)), True)

    def test_just_one_of_smaller_equal_greater(self):
        for one in all_fractions():
            for two in all_fractions():
                told = [less(one, two), one == two, less(two, one)]
                self.assertEqual(told.count(True), 1)


class NothingKept(unittest.TestCase):
    def test_the_same_is_told_again(self):
        for one in large_fractions():
            for two in large_fractions():
                for told in (plus, times, over, less):
                    self.assertEqual(told(one, two), told(one, two))


if __name__ == "__main__":
    unittest.main()
