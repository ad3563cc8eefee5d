import unittest

from lightcurves.stars import asymmetry
from support import (NO_MAGNITUDES, SERIES_LENGTHS, WRONG_LENGTHS, OperationTest, scattered_numbers,
                     scattered_times, unsigned)

LAST = 2 ** 32 - 1


def expected(tolerance, time, times, magnitudes):
    total = 0
    for x, magnitude in zip(times, magnitudes):
        if x < time:
            partners = [place for place, y in enumerate(times) if abs((y - time) - (time - x)) <= tolerance]
            if partners:
                total += abs(magnitude - magnitudes[partners[0]])
    return total


def around_10(times, magnitudes):
    return asymmetry(3, 10, times, magnitudes)


class AsymmetryTest(OperationTest):
    def check(self, tolerance, time, times, magnitudes, total):
        self.assertEqual(asymmetry(tolerance, time, times, unsigned(magnitudes)), [0, total])

    def check_definition(self, tolerance, time, times, magnitudes):
        self.check(tolerance, time, times, magnitudes, expected(tolerance, time, times, magnitudes))


class OrdinarySeries(AsymmetryTest):
    def test_a_symmetric_dip(self):
        self.check(0, 10, [8, 9, 10, 11, 12], [5, 70, 90, 70, 5], 0)

    def test_an_asymmetric_dip(self):
        self.check(0, 10, [8, 9, 10, 11, 12], [5, 70, 90, 60, 8], 13)
        self.check(0, 10, [8, 9, 10, 11, 12], [8, 60, 90, 70, 5], 13)

    def test_differences_do_not_cancel_out(self):
        self.check(0, 10, [8, 9, 11, 12], [5, 70, 60, 15], 20)

    def test_magnitudes_of_both_signs(self):
        self.check(0, 10, [8, 9, 11, 12], [-5, -70, 60, -15], 140)
        self.check(0, 10, [9, 11], [-1, 1], 2)
        self.check(0, 10, [9, 11], [1, -1], 2)
        self.assertEqual(asymmetry(0, 10, [9, 11], [LAST, 1]), [0, 2])

    def test_times_that_are_not_in_order(self):
        self.check(0, 10, [12, 9, 10, 8, 11], [8, 70, 90, 5, 60], 13)
        self.check(0, 10, [11, 12, 8, 9], [60, 15, 5, 70], 20)
        self.check(1, 10, [13, 9, 11, 6], [1, 20, 300, 4000], 280 + 3999)

    def test_short_series_against_the_definition(self):
        for length in range(8):
            for seed in range(40):
                times = scattered_times(length, 12, seed)
                magnitudes = scattered_numbers(length, 99999, seed + 1)
                for tolerance in (0, 1, 2, 5, 30):
                    for time in (0, 1, 6, 7, 12, 13, 40):
                        self.check_definition(tolerance, time, times, magnitudes)

    def test_longer_series_against_the_definition(self):
        for seed, length in enumerate(SERIES_LENGTHS):
            for greatest in (2000, LAST):
                times = scattered_times(length, greatest, seed)
                magnitudes = scattered_numbers(length, 99999, seed + 1)
                for tolerance in (0, greatest // 1000, greatest // 2):
                    self.check_definition(tolerance, greatest // 2, times, magnitudes)


class NothingToCompare(AsymmetryTest):
    def test_no_times(self):
        for tolerance in (0, 1, LAST):
            for time in (0, 10, LAST):
                self.check(tolerance, time, [], [], 0)

    def test_no_time_ahead_of_the_given_one(self):
        self.check(0, 10, [10, 11, 12], [1, 20, 300], 0)
        self.check(LAST, 10, [10, 11, 12], [1, 20, 300], 0)
        self.check(LAST, 10, [LAST, 11, 10], [1, 20, 300], 0)

    def test_a_time_equal_to_the_given_one_is_not_ahead_of_it(self):
        self.check(0, 10, [10], [5], 0)
        self.check(5, 10, [12, 10], [5, 9], 0)
        self.check(5, 10, [12, 10, 10], [5, 9, 7], 0)
        self.check(5, 10, [12, 9], [5, 9], 4)

    def test_all_times_ahead_of_the_given_one(self):
        self.check(0, 10, [7, 8, 9], [1, 20, 300], 0)
        self.check(1, 10, [7, 8, 9], [1, 20, 300], 0)
        # With 3 the partner of 8 is 9 and that of 9 is 8; with 4 that of 7 is 9, of 8 itself, of 9 is 7.
        self.check(2, 10, [7, 8, 9], [1, 20, 300], 0)
        self.check(3, 10, [7, 8, 9], [1, 20, 300], 280 + 280)
        self.check(4, 10, [7, 8, 9], [1, 20, 300], 299 + 299)


class Partners(AsymmetryTest):
    def test_a_measurement_without_a_partner_is_ignored(self):
        self.check(0, 10, [9], [5], 0)
        self.check(0, 10, [9, 12], [5, 7], 0)
        self.check(0, 10, [3, 9, 11], [500, 5, 7], 2)
        self.check(0, 10, [9, 3, 11, 18], [5, 500, 7, 900], 2)

    def test_a_partner_at_and_beyond_the_tolerance(self):
        for time in (12, 13, 14, 15, 16):
            self.check(2, 10, [6, time], [5, 12], 7)
        for time in (10, 11, 17, 18):
            self.check(2, 10, [6, time], [5, 12], 0)
        self.check(0, 10, [6, 14], [5, 12], 7)
        self.check(0, 10, [6, 13], [5, 12], 0)
        self.check(0, 10, [6, 15], [5, 12], 0)
        self.check(1, 10, [6, 13], [5, 12], 7)
        self.check(1, 10, [6, 15], [5, 12], 7)

    def test_the_first_one_in_the_list_and_not_the_nearest(self):
        self.check(2, 10, [5, 17, 15, 16], [0, 100, 20, 3], 100)
        self.check(2, 10, [5, 13, 17, 15], [0, 3, 100, 20], 3)
        self.check(2, 10, [15, 17, 5], [20, 100, 0], 20)
        self.check(2, 10, [17, 5, 15], [100, 0, 20], 100)
        self.check(2, 10, [18, 17, 5, 15], [4000, 100, 0, 20], 100)

    def test_the_first_one_and_not_the_one_with_the_least_or_greatest_difference(self):
        self.check(2, 10, [5, 15, 16, 17], [50, 70, 50, 99], 20)
        self.check(2, 10, [5, 15, 16, 17], [50, 30, 50, 1], 20)

    def test_the_first_of_equal_times(self):
        self.check(0, 10, [9, 11, 11], [0, 3, 40], 3)
        self.check(0, 10, [11, 11, 9], [40, 3, 0], 40)

    def test_a_partner_that_is_itself_ahead_of_the_given_time(self):
        # 9 lies 8 from where 3 is mirrored, and it is the first one in the list.
        self.check(8, 10, [9, 3, 17], [5, 40, 600], 35)
        self.check(7, 10, [9, 3, 17], [5, 40, 600], 560)
        self.check(3, 10, [8, 9], [5, 40], 35 + 35)

    def test_a_partner_at_the_given_time(self):
        self.check(1, 10, [10, 9, 11], [5, 40, 600], 35)
        self.check(0, 10, [10, 9, 11], [5, 40, 600], 560)

    def test_a_measurement_as_its_own_partner(self):
        self.check(2, 10, [9, 11], [5, 40], 0)
        self.check(1, 10, [9, 11], [5, 40], 35)
        self.check(2, 10, [11, 9], [40, 5], 35)
        self.check(LAST, 10, [3], [5], 0)

    def test_one_partner_of_several_measurements(self):
        self.check(2, 10, [12, 8, 7, 9], [0, 1, 20, 300], 321)
        self.check(0, 10, [8, 8, 8, 12], [1, 20, 300, 0], 321)
        self.check(0, 10, [8, 12, 8, 12, 8], [1, 0, 20, 5000, 300], 321)

    def test_all_measurements_with_the_same_partner(self):
        times, magnitudes = scattered_times(300, 99), scattered_numbers(300, 99999, 2)
        self.check(LAST, 100, times, magnitudes, sum(abs(number - magnitudes[0]) for number in magnitudes))


class EdgesOfTheNumbers(AsymmetryTest):
    def test_smallest_tolerance(self):
        self.check(0, 10, [6, 13, 15, 14], [1, 20, 300, 4000], 3999)

    def test_greatest_tolerance(self):
        # The first one in the list is the partner of each.
        self.check(LAST, 10, [15, 9, 3], [1, 20, 300], 19 + 299)
        self.check(LAST, 10, [LAST, 9, 3], [1, 20, 300], 19 + 299)
        self.check(LAST, 2 ** 31, [LAST, 1, 0], [1, 20, 300], 19 + 299)
        # 0 is mirrored at 2 * LAST, which is further than the tolerance from all but LAST.
        self.check(LAST, LAST, [0], [7], 0)
        self.check(LAST, LAST, [5, 0, LAST], [1, 20, 300], 299 + 280)
        self.check(LAST - 1, LAST, [0, LAST], [20, 300], 0)

    def test_the_time_0(self):
        for tolerance in (0, 1, LAST):
            self.check(tolerance, 0, [0, 1, 2, LAST], [1, 20, 300, 4000], 0)

    def test_the_time_1(self):
        self.check(0, 1, [0, 1, 2], [1, 20, 300], 299)
        self.check(1, 1, [0, 1, 2], [1, 20, 300], 19)
        self.check(2, 1, [0, 1, 2], [1, 20, 300], 0)

    def test_the_greatest_time(self):
        self.check(0, LAST, [0, LAST - 1, LAST], [1, 20, 300], 0)
        self.check(1, LAST, [0, LAST - 1, LAST], [1, 20, 300], 280)
        self.check(2, LAST, [LAST - 1, LAST - 2, LAST], [20, 4000, 300], 3700)
        self.check(3, LAST, [LAST - 1, LAST - 2, LAST], [20, 4000, 300], 3980)

    def test_the_smallest_and_the_greatest_measured_times(self):
        self.check(0, 2 ** 31, [0, 1, LAST], [1, 20, 300], 280)
        self.check(1, 2 ** 31, [0, LAST], [1, 300], 299)
        self.check(0, 2 ** 31, [1, LAST], [1, 300], 299)

    def test_nothing_is_reckoned_modulo_2_to_the_32(self):
        # 2 * 3000000000 is 1705032704 modulo 2 ** 32.
        self.check(0, 3000000000, [0, 1705032704], [1, 20], 0)
        self.check(10, LAST, [LAST - 3, 1, 2], [1, 20, 300], 0)

    def test_smallest_and_greatest_magnitudes(self):
        self.check(0, 10, [9, 11], [99999, -99999], 199998)
        self.check(0, 10, [9, 11], [-99999, 99999], 199998)
        self.check(0, 10, [9, 11], [-99999, -99999], 0)

    def test_most_times(self):
        self.check(0, 512, list(range(1024)), list(range(1024)), sum(range(2, 1023, 2)))
        self.check(LAST, LAST, [LAST] + [LAST - 1] * 1023, [99999] + [-99999] * 1023, 1023 * 199998)
        self.check(0, 1, [0] * 512 + [2] * 512, [99999] * 512 + [-99999] * 512, 512 * 199998)


class FormOfTheAnswer(AsymmetryTest):
    def test_0_and_one_number(self):
        for length in SERIES_LENGTHS:
            times, magnitudes = scattered_times(length), unsigned(scattered_numbers(length, 99999, 1))
            for tolerance in (0, 10 ** 6, LAST):
                self.check_form(asymmetry(tolerance, 2 ** 31, times, magnitudes), 2)


class Errors(AsymmetryTest):
    def test_too_many_times_and_no_magnitudes(self):
        self.check_series_errors(around_10)

    def test_no_magnitude_wherever_it_stands(self):
        # Refused ahead of the time, behind it, with and without a partner.
        for wrong in NO_MAGNITUDES:
            for time in (0, 10, LAST):
                self.assertEqual(asymmetry(0, time, [9], [wrong]), [-3])
                self.assertEqual(asymmetry(0, time, [9, 11, 30], [1, wrong, 2]), [-3])
                self.assertEqual(asymmetry(0, time, [9, 11, 30], [1, 2, wrong]), [-3])

    def test_2_ahead_of_3(self):
        for wrong in NO_MAGNITUDES:
            for length in WRONG_LENGTHS:
                for time in (0, 10, LAST):
                    self.assertEqual(asymmetry(0, time, [9] * length, [wrong] * length), [-2])

    def test_any_tolerance_and_any_time_is_allowed(self):
        for number in (0, 1, 1024, 1025, 65536, 16777217, 2 ** 31 - 1, 2 ** 31, LAST):
            self.check(number, 10, [3, 17], [5, 5], 0)
            self.check(0, number, [number], [5], 0)


class Purity(AsymmetryTest):
    def test_nothing_is_changed_or_kept(self):
        magnitudes = unsigned(scattered_numbers(100, 99999, 1))
        self.check_pure(asymmetry, 5, 50, scattered_times(100, 100), magnitudes)
        self.check_pure(asymmetry, LAST, LAST, scattered_times(100), magnitudes)
        self.check_pure(asymmetry, 5, 50, [], [])
        self.check_pure(asymmetry, 5, 50, [9] * 1025, [5] * 1025)
        self.check_pure(asymmetry, 5, 50, [3, 2], [1, 100000])


if __name__ == "__main__":
    unittest.main()
