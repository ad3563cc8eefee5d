import unittest

from lightcurves.stars import fold, phase
from support import OperationTest, phase_of, scattered_times

LAST = 2 ** 32 - 1
PERIODS = [1, 2, 3, 10, 1000, 65535, 65536, 65537, 1000003, 16777215, 16777216,
           16777217, 2 ** 25, 10 ** 9 + 7, 2 ** 31 - 1, 2 ** 31, 2 ** 31 + 1, LAST - 1, LAST]


def times_around(period):
    """Times in and around the first two periods, the last ones of all, and some between."""
    edges = [0, 1, period - 1, period, period + 1, 2 * period - 1, 2 * period, 2 * period + 1, LAST - 1, LAST]
    return [time for time in edges if time <= LAST] + scattered_times(100) + scattered_times(100, period - 1)


class PhaseTest(OperationTest):
    def check(self, period, times, phases):
        self.assertEqual([phase(period, time) for time in times], [[number] for number in phases])


class OrdinaryTimes(PhaseTest):
    def test_times_below_the_period(self):
        self.check(4, [0, 1, 2, 3], [0, 16384, 32768, 49152])
        self.check(10, [0, 1, 5, 9], [0, 6553, 32768, 58982])
        self.check(65536, [0, 1, 40000, 65535], [0, 1, 40000, 65535])

    def test_times_at_the_period(self):
        for period in PERIODS:
            self.check(period, [period], [0])
        self.check(10, [10, 20, 1000], [0, 0, 0])

    def test_times_beyond_the_period(self):
        self.check(4, [5, 6, 7, 401], [16384, 32768, 49152, 16384])
        self.check(10, [11, 23, 999], [6553, 19660, 58982])
        self.check(65536, [65537, 2 ** 31 + 7], [1, 7])

    def test_a_rest_of_the_division_is_dropped(self):
        self.check(3, [1, 2], [21845, 43690])
        self.check(7, [1, 6], [9362, 56173])
        self.check(131072, [0, 1, 2, 3, 131071], [0, 0, 1, 1, 65535])

    def test_times_against_the_definition(self):
        for period in PERIODS:
            times = times_around(period)
            self.check(period, times, [phase_of(period, time) for time in times])

    def test_all_short_periods_against_the_definition(self):
        for period in range(1, 40):
            self.check(period, range(100), [phase_of(period, time) for time in range(100)])


class AnyPeriod(PhaseTest):
    def test_a_period_of_0_is_treated_as_1(self):
        for time in (0, 1, 2, 65535, 65536, 2 ** 31, LAST):
            self.assertEqual(phase(0, time), [0])
            self.assertEqual(phase(0, time), phase(1, time))

    def test_a_period_of_1(self):
        self.check(1, [0, 1, 2, 65535, 65536, 2 ** 31, LAST], [0] * 7)

    def test_a_period_of_2(self):
        self.check(2, [0, 1, 2, LAST - 1, LAST], [0, 32768, 0, 0, 32768])

    def test_a_period_of_16777216_and_one_more(self):
        self.check(16777216, [255, 256, 16777215, 16777216, 16777217], [0, 1, 65535, 0, 0])
        self.check(16777217, [256, 257, 16777216, 16777217, 16777218], [0, 1, 65535, 0, 0])
        self.check(16777217, [16777217 + 256, 16777217 + 257], [0, 1])

    def test_the_greatest_period(self):
        self.check(LAST, [0, 65535, 65536, 2 ** 31 - 1, 2 ** 31, LAST - 65536, LAST - 65535, LAST - 1, LAST],
                   [0, 0, 1, 32767, 32768, 65534, 65535, 65535, 0])

    def test_a_period_of_2_to_the_31(self):
        self.check(2 ** 31, [32767, 32768, 2 ** 31 - 1, 2 ** 31, LAST], [0, 1, 65535, 0, 65535])

    def test_nothing_is_refused(self):
        for period in [0] + PERIODS:
            for time in (0, 1, 99999, 100000, 16777217, 2 ** 31, LAST):
                self.assertGreaterEqual(phase(period, time)[0], 0)


class EdgesOfTheTimes(PhaseTest):
    def test_the_time_0(self):
        for period in [0] + PERIODS:
            self.check(period, [0], [0])

    def test_the_greatest_time(self):
        self.check(10, [LAST], [32768])
        self.check(65536, [LAST], [65535])
        self.check(16777216, [LAST], [65535])
        self.check(2 ** 32 - 2, [LAST], [0])
        self.check(LAST, [LAST], [0])
        self.check(3, [LAST, LAST - 1], [0, 43690])


class EdgesOfThePhases(PhaseTest):
    def test_a_phase_of_0(self):
        self.check(65536, [0, 65536, 2 ** 31], [0] * 3)
        self.check(65537, [0, 1, 65537, 65538], [0] * 4)
        self.check(2 ** 31, [0, 1, 32767], [0] * 3)

    def test_a_phase_of_65535(self):
        self.check(65536, [65535, 131071, LAST], [65535] * 3)
        self.check(65537, [65536, 65537 + 65536], [65535] * 2)
        self.check(2 ** 31, [2 ** 31 - 32768, 2 ** 31 - 1], [65535] * 2)

    def test_a_period_too_short_for_a_phase_of_65535(self):
        self.check(65535, [65534, 65535, 65535 + 65534], [65534, 0, 65534])


class FormOfTheAnswer(PhaseTest):
    def test_one_number_alone(self):
        for period in [0] + PERIODS:
            for time in (0, 1, 12345, LAST):
                given = phase(period, time)
                self.assertIs(type(given), list)
                self.assertEqual(len(given), 1)
                self.assertIs(type(given[0]), int)


class RequirementFour(PhaseTest):
    def test_phases_are_below_65536(self):
        for period in [0] + PERIODS:
            for time in times_around(max(1, period)):
                self.assertIn(phase(period, time)[0], range(65536))

    def test_adding_the_period_to_a_time(self):
        cases = 0
        for period in PERIODS:
            for time in times_around(period):
                if time + period <= LAST:
                    self.assertEqual(phase(period, time + period), phase(period, time))
                    cases += 1
        self.assertGreater(cases, 2000)

    def test_adding_several_periods_to_a_time(self):
        for period in PERIODS:
            for count in (2, 3, 100):
                for time in scattered_times(20, period - 1):
                    if time + count * period <= LAST:
                        self.assertEqual(phase(period, time + count * period), phase(period, time))

    def test_the_same_phase_as_fold(self):
        for period in PERIODS:
            if period <= 16777216:
                for time in times_around(period):
                    self.assertEqual(fold(period, [time], [0]), [0, 1] + phase(period, time) + [1, 0])

    def test_the_same_phases_as_a_whole_series(self):
        for period in (1, 7, 1000, 16777216):
            times = scattered_times(1024)
            phases = sorted(phase(period, time)[0] for time in times)
            self.assertEqual(fold(period, times, [0] * 1024)[2:1026], phases)


class Purity(PhaseTest):
    def test_nothing_is_kept(self):
        for period in (0, 1, 10, 16777217, LAST):
            for time in (0, 3, LAST):
                self.check_pure(phase, period, time)


if __name__ == "__main__":
    unittest.main()
