import unittest
from fractions import Fraction
from math import floor

from lightcurves.stars import parabola_minimum
from support import OperationTest, scattered_numbers, scattered_times, unsigned

SMALLEST = -2 ** 31
GREATEST = 2 ** 31 - 1
STEPS = [1, 2, 3, 10, 1000, 65535, 65536]
WRONG_STEPS = [0, 65537, 65538, 2 ** 17, 2 ** 31 - 1, 2 ** 31, 2 ** 32 - 1]


def minimum(time, step, values):
    """The answer for signed numbers, given the three values."""
    return parabola_minimum(*unsigned([time]), step, *unsigned(values))


def unsigned_64(value):
    return value + 2 ** 64 if value < 0 else value


def expected(time, step, values):
    a, b, c = values
    d = a - 2 * b + c
    if d <= 0:
        return time
    return time + floor(Fraction(step * (a - c), 2 * d) + Fraction(1, 2))


class MinimumTest(OperationTest):
    def check(self, time, step, values, found):
        self.assertEqual(minimum(time, step, values), [0, unsigned_64(found)])


class OrdinaryParabolas(MinimumTest):
    def test_minimum_at_the_middle_time(self):
        self.check(100, 10, [5, 3, 5], 100)
        self.check(100, 1, [1, 0, 1], 100)
        self.check(0, 65536, [-7, -9, -7], 0)

    def test_minimum_ahead_of_the_middle_time(self):
        # (t - 98) ** 2 at 99, 100 and 101.
        self.check(100, 1, [1, 4, 9], 98)
        # 3 * (t - 5) ** 2 - 8 at 4, 8 and 12.
        self.check(8, 4, [-5, 19, 139], 5)

    def test_minimum_behind_the_middle_time(self):
        self.check(100, 1, [9, 4, 1], 102)
        self.check(100, 10, [400, 100, 0], 110)

    def test_minimum_between_the_times(self):
        self.check(100, 10, [30, 10, 20], 102)
        self.check(100, 10, [20, 10, 30], 98)

    def test_minimum_beyond_the_times(self):
        self.check(1000, 10, [100, 90, 81], 1095)
        self.check(1000, 10, [81, 90, 100], 905)

    def test_values_of_any_sign(self):
        self.check(50, 2, [-10, -20, -10], 50)
        self.check(50, 8, [-10, -20, -14], 51)
        self.check(50, 2, [0, -20, 8], 50)
        self.check(50, 12, [0, -20, 20], 48)
        self.check(-50, 12, [0, -20, 20], -52)

    def test_the_same_amount_on_all_values(self):
        for amount in (-1000, -3, 1, 50000):
            self.check(100, 10, [30 + amount, 10 + amount, 20 + amount], 102)

    def test_many_parabolas_against_the_definition(self):
        for seed, bound in enumerate((1, 5, 50, 99999, GREATEST)):
            numbers = scattered_numbers(1200, bound, seed)
            for place in range(0, 1200, 4):
                time, values = numbers[place], numbers[place + 1:place + 4]
                for step in STEPS:
                    self.check(time, step, values, expected(time, step, values))

    def test_all_small_parabolas_against_the_definition(self):
        places = range(-4, 5)
        for a in places:
            for b in places:
                for c in places:
                    for step in (1, 5):
                        self.check(-2, step, [a, b, c], expected(-2, step, [a, b, c]))


class NoMinimum(MinimumTest):
    def test_d_is_0(self):
        for time in (-50, 0, 7, SMALLEST, GREATEST):
            for step in STEPS:
                for values in ([0, 0, 0], [5, 5, 5], [1, 2, 3], [3, 2, 1], [-9, 0, 9], [SMALLEST] * 3, [GREATEST] * 3):
                    self.check(time, step, values, time)

    def test_d_is_below_0(self):
        for time in (-50, 0, 7, SMALLEST, GREATEST):
            for step in STEPS:
                for values in ([0, 1, 0], [0, 1, 1], [1, 1, 0], [-9, -3, 2], [9, 4, -2], [-5, 0, 4],
                               [SMALLEST, GREATEST, SMALLEST], [SMALLEST, GREATEST, GREATEST]):
                    self.check(time, step, values, time)

    def test_d_around_0(self):
        self.check(100, 10, [20, 10, 1], 100 + 95)
        self.check(100, 10, [20, 10, 0], 100)
        self.check(100, 10, [20, 10, -1], 100)
        self.check(100, 10, [1, 10, 20], 100 - 95)
        self.check(100, 10, [0, 10, 20], 100)


class Rounding(MinimumTest):
    def test_ties_round_up_on_both_sides(self):
        # The last value is 0 and d is 1, so that the quotient is half of the first value.
        for first, rounded in ((1, 1), (3, 2), (5, 3), (-1, 0), (-3, -1), (-5, -2)):
            for time in (0, 1, 100, -1, -100):
                self.check(time, 1, [first, (first - 1) // 2, 0], time + rounded)

    def test_ties_between_the_times(self):
        self.check(100, 10, [21, 10, 19], 101)
        self.check(100, 10, [19, 10, 21], 100)
        self.check(0, 10, [19, 10, 21], 0)
        self.check(-100, 10, [21, 10, 19], -99)
        self.check(-100, 10, [19, 10, 21], -100)
        self.check(0, 5, [3, 1, 5], -1)
        self.check(0, 3, [3, 0, -1], 3)
        self.check(0, 3, [-1, 0, 3], -3)

    def test_what_is_no_tie_goes_to_the_nearest(self):
        # d is 30, so that the quotient is a sixth of the difference of the outer values.
        for difference, rounded in ((2, 0), (4, 1), (8, 1), (10, 2), (-2, 0), (-4, -1), (-8, -1), (-10, -2)):
            self.check(100, 10, [15 + difference // 2, 0, 15 - difference // 2], 100 + rounded)
            self.check(0, 10, [15 + difference // 2, 0, 15 - difference // 2], rounded)
            self.check(-100, 10, [15 + difference // 2, 0, 15 - difference // 2], -100 + rounded)

    def test_a_whole_quotient_is_kept(self):
        for quotient in range(-5, 6):
            self.check(7, 2, [quotient + 1, 0, 1 - quotient], 7 + quotient)


class SignedNumbers(MinimumTest):
    def test_negative_values_have_2_to_the_32_added(self):
        self.assertEqual(parabola_minimum(50, 12, 0, 2 ** 32 - 20, 20), [0, 48])
        self.assertEqual(parabola_minimum(50, 6, 2 ** 32 - 1, 2 ** 32 - 3, 2 ** 32 - 1), [0, 50])
        self.assertEqual(parabola_minimum(50, 6, 1, 2 ** 32 - 1, 2 ** 32 - 1), [0, 53])
        self.assertEqual(parabola_minimum(50, 6, 2 ** 32 - 1, 2 ** 32 - 1, 1), [0, 47])

    def test_a_negative_time_has_2_to_the_32_added(self):
        self.assertEqual(parabola_minimum(2 ** 32 - 3, 12, 0, 2 ** 32 - 20, 20), [0, 2 ** 64 - 5])
        self.assertEqual(parabola_minimum(2 ** 32 - 1, 12, 20, 2 ** 32 - 20, 0), [0, 1])
        self.assertEqual(parabola_minimum(2 ** 32 - 2, 12, 20, 2 ** 32 - 20, 0), [0, 0])

    def test_a_minimum_below_0_has_2_to_the_64_added(self):
        self.assertEqual(parabola_minimum(0, 1, 1, 4, 9), [0, 2 ** 64 - 2])
        self.assertEqual(parabola_minimum(1, 1, 1, 4, 9), [0, 2 ** 64 - 1])
        self.assertEqual(parabola_minimum(2, 1, 1, 4, 9), [0, 0])
        self.assertEqual(parabola_minimum(2 ** 32 - 1, 1, 0, 0, 0), [0, 2 ** 64 - 1])
        self.assertEqual(parabola_minimum(2 ** 31, 1, 0, 0, 0), [0, 2 ** 64 - 2 ** 31])

    def test_a_minimum_of_2_to_the_31_and_above_is_answered_as_it_is(self):
        self.assertEqual(parabola_minimum(GREATEST, 1, 9, 4, 1), [0, 2 ** 31 + 1])
        self.assertEqual(parabola_minimum(GREATEST, 1, 0, 0, 0), [0, GREATEST])


class Edges(MinimumTest):
    def test_smallest_and_greatest_values(self):
        self.check(5, 1, [GREATEST, SMALLEST, GREATEST], 5)
        self.check(5, 8, [GREATEST, SMALLEST, SMALLEST], 9)
        self.check(5, 8, [SMALLEST, SMALLEST, GREATEST], 1)
        self.check(5, 8, [GREATEST, GREATEST, SMALLEST], 5)
        self.check(5, 8, [SMALLEST, GREATEST, GREATEST], 5)
        self.check(5, 8, [GREATEST, SMALLEST + 1, SMALLEST], 9)

    def test_edges_of_all_numbers_against_the_definition(self):
        edges = (SMALLEST, SMALLEST + 1, -1, 0, 1, GREATEST - 1, GREATEST)
        for time in (SMALLEST, -1, 0, GREATEST):
            for step in (1, 65536):
                for a in edges:
                    for b in edges:
                        for c in edges:
                            self.check(time, step, [a, b, c], expected(time, step, [a, b, c]))

    def test_minima_beyond_what_32_bits_hold(self):
        # d is 1 and the difference of the outer values 2 ** 32 - 1.
        falling, rising = [GREATEST, -1, SMALLEST], [SMALLEST, -1, GREATEST]
        furthest = 2 ** 15 * (2 ** 32 - 1)
        for time in (SMALLEST, -1, 0, 1, GREATEST):
            self.check(time, 65536, falling, time + furthest)
            self.check(time, 65536, rising, time - furthest)
        self.assertEqual(parabola_minimum(GREATEST, 65536, GREATEST, 2 ** 32 - 1, 2 ** 31), [0, 140739635806207])
        self.assertEqual(parabola_minimum(2 ** 31, 65536, 2 ** 31, 2 ** 32 - 1, GREATEST),
                         [0, 2 ** 64 - 140739635806208])

    def test_quotients_that_are_no_exact_floats(self):
        self.check(0, 65535, [GREATEST, -1, SMALLEST], 65535 * (2 ** 31 - 1) + 32768)
        self.check(0, 65535, [SMALLEST, -1, GREATEST], -65535 * (2 ** 31 - 1) - 32767)

    def test_shortest_and_longest_step(self):
        self.check(100, 1, [30, 10, 20], 100)
        self.check(100, 65536, [30, 10, 20], 100 + 10923)
        self.check(100, 65536, [20, 10, 30], 100 - 10923)
        self.check(100, 65536, [9, 4, 1], 100 + 131072)


class FormOfTheAnswer(MinimumTest):
    def test_0_and_one_number(self):
        numbers = scattered_times(400)
        for place in range(0, 400, 4):
            for step in STEPS:
                given = parabola_minimum(numbers[place], step, *numbers[place + 1:place + 4])
                self.check_form(given, 2)
                self.assertLess(given[1], 2 ** 64)


class Errors(MinimumTest):
    def test_step_outside_its_range(self):
        numbers = (0, 1, GREATEST, 2 ** 31, 2 ** 32 - 1)
        for step in WRONG_STEPS:
            for time in numbers:
                self.assertEqual(parabola_minimum(time, step, 5, 3, 5), [-2])
                self.assertEqual(parabola_minimum(time, step, 3, 5, 3), [-2])
            for number in numbers:
                self.assertEqual(parabola_minimum(100, step, number, number, number), [-2])

    def test_the_edges_of_the_range_are_allowed(self):
        for step in (1, 2, 65535, 65536):
            self.assertEqual(parabola_minimum(100, step, 5, 3, 5), [0, 100])

    def test_no_other_number_is_refused(self):
        for number in (0, 99999, 100000, GREATEST, 2 ** 31, 2 ** 32 - 100000, 2 ** 32 - 1):
            self.assertEqual(parabola_minimum(100, 9, number, number, number), [0, 100])
            self.assertEqual(parabola_minimum(number, 9, 5, 3, 5)[0], 0)


class RequirementEight(MinimumTest):
    def test_integer_times_of_minimum(self):
        cases = 0
        for factor in (1, 2, 3, 7, 100, 31415, 2000000):
            for lowest in (0, 1, -1, 99999, -2 * 10 ** 9, 10 ** 9):
                for time in (0, 1, -1, 12345, -54321, GREATEST, SMALLEST):
                    for away in (0, 1, -1, 2, -2, 5, -17, 300, -999, 20000, -30000):
                        for step in STEPS:
                            values = [factor * (place - away) ** 2 + lowest for place in (-step, 0, step)]
                            if max(values) <= GREATEST:
                                self.check(time, step, values, time + away)
                                cases += 1
        self.assertGreater(cases, 5000)

    def test_coefficients_as_they_stand(self):
        # u * t ** 2 + v * t + w has its minimum at -v / (2 * u).
        for u, v, w in ((1, 0, 0), (1, -8, 3), (5, 70, -9), (1, 6, 100), (12, -2400, 7), (3, -6, -40)):
            for time in (-30, -1, 0, 4, 99):
                for step in (1, 2, 9, 250):
                    values = [u * t * t + v * t + w for t in (time - step, time, time + step)]
                    self.assertEqual(v % (2 * u), 0)
                    self.check(time, step, values, -v // (2 * u))


class Purity(MinimumTest):
    def test_nothing_is_kept(self):
        self.check_pure(parabola_minimum, 100, 10, 30, 10, 20)
        self.check_pure(parabola_minimum, 2 ** 32 - 1, 65536, 2 ** 31, 2 ** 32 - 1, GREATEST)
        self.check_pure(parabola_minimum, 100, 10, 10, 30, 20)
        self.check_pure(parabola_minimum, 100, 0, 30, 10, 20)


if __name__ == "__main__":
    unittest.main()
