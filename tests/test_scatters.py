import unittest
from fractions import Fraction
from math import floor

from lightcurves.stars import scatters
from support import SIZES, OperationTest, scattered_images, scattered_numbers, table, unsigned


def scatter(values):
    """The scatter by way of the squared distances from the mean."""
    mean = Fraction(sum(values), len(values))
    return floor(256 * sum((value - mean) ** 2 for value in values) / len(values))


def one_star(values):
    return scatters(1, unsigned(values))


class OrdinaryTables(OperationTest):
    def test_one_image(self):
        self.assertEqual(one_star([500]), [0, 0])
        self.assertEqual(scatters(3, unsigned([7, -8, 9])), [0, 0, 0, 0])

    def test_equal_values(self):
        self.assertEqual(one_star([5, 5, 5]), [0, 0])
        self.assertEqual(one_star([-99999] * 64), [0, 0])

    def test_one_star(self):
        self.assertEqual(one_star([0, 2]), [0, 256])
        self.assertEqual(one_star([0, 1]), [0, 64])
        self.assertEqual(one_star([10, 20, 30, 40]), [0, 32000])

    def test_both_signs(self):
        self.assertEqual(one_star([-1, 1]), [0, 256])
        self.assertEqual(one_star([-10, 30]), [0, 102400])
        self.assertEqual(one_star([-1, -3]), [0, 256])

    def test_a_rest_of_the_division_is_dropped(self):
        self.assertEqual(one_star([0, 0, 1]), [0, 56])
        self.assertEqual(one_star([0, 0, -1]), [0, 56])
        self.assertEqual(one_star([1, 2, 4]), [0, 398])
        self.assertEqual(one_star([0] * 63 + [1]), [0, 3])

    def test_several_stars_image_by_image(self):
        self.assertEqual(scatters(2, [0, 5, 2, 5]), [0, 256, 0])
        self.assertEqual(scatters(3, [0, 5, 1, 2, 5, 1, 1, 5, 0]), [0, 170, 0, 56])

    def test_the_magnitudes_are_not_corrected(self):
        self.assertEqual(scatters(2, [10, 20, 12, 22]), [0, 256, 256])

    def test_sizes_against_the_definition(self):
        for seed, (star_count, image_count) in enumerate(SIZES):
            for bound in (2, 1000, 99999):
                images = scattered_images(star_count, image_count, bound, seed)
                self.assertEqual(scatters(star_count, table(images)),
                                 [0] + [scatter(star) for star in zip(*images)])


class FormOfTheAnswer(OperationTest):
    def test_one_number_a_star(self):
        for star_count, image_count in SIZES:
            magnitudes = table(scattered_images(star_count, image_count))
            self.check_form(scatters(star_count, magnitudes), 1 + star_count)


class Edges(OperationTest):
    def test_the_greatest_scatter(self):
        for half in (1, 16, 32):
            self.assertEqual(one_star([-99999, 99999] * half), [0, 256 * 99999 ** 2])
        self.assertEqual(scatters(32, table([[99999] * 32, [-99999] * 32] * 32)), [0] + [2559948800256] * 32)

    def test_the_greatest_scatter_of_an_odd_number_of_images(self):
        self.assertEqual(one_star([-99999] * 31 + [99999] * 32), [0, 256 * 4 * 99999 ** 2 * 31 * 32 // 63 ** 2])

    def test_scatters_about_2_to_the_32_are_answered_whole(self):
        self.assertEqual(one_star([-4096, 4096]), [0, 2 ** 32])
        self.assertEqual(one_star([-4095, 4095]), [0, 256 * 4095 ** 2])


class Errors(OperationTest):
    def test_counts_outside_their_ranges(self):
        self.check_table_size_errors(scatters)

    def test_no_magnitudes(self):
        self.check_magnitude_errors(scatters)

    def test_order(self):
        self.check_error_order(scatters)


class RequirementTwo(OperationTest):
    def test_adding_a_constant(self):
        for count in (1, 2, 3, 7, 63, 64):
            values = scattered_numbers(count, 40000, count)
            before = one_star(values)
            for amount in (-59999, -1, 1, 12345, 59999):
                self.assertEqual(one_star([value + amount for value in values]), before)

    def test_adding_a_constant_to_one_star_of_several(self):
        images = scattered_images(4, 5, 40000)
        moved = [[image[0], image[1] + 50000] + image[2:] for image in images]
        self.assertEqual(scatters(4, table(moved)), scatters(4, table(images)))

    def test_reversing_the_sign(self):
        for count in (1, 2, 3, 7, 63, 64):
            values = scattered_numbers(count, 99999, count)
            self.assertEqual(one_star([-value for value in values]), one_star(values))

    def test_0_exactly_if_all_values_are_equal(self):
        for count in range(1, 65):
            for value in (-99999, -1, 0, 1, 77777, 99998):
                self.assertEqual(one_star([value] * count), [0, 0])
                if count > 1:
                    self.assertGreater(one_star([value] * (count - 1) + [value + 1])[1], 0)
                    self.assertGreater(one_star([value + 1] + [value] * (count - 1))[1], 0)


class Purity(OperationTest):
    def test_nothing_is_changed_or_kept(self):
        self.check_pure(scatters, 3, table(scattered_images(3, 4)))
        self.check_pure(scatters, 1, [2 ** 32 - 1])
        self.check_pure(scatters, 0, [])
        self.check_pure(scatters, 2, [100000, 1])


if __name__ == "__main__":
    unittest.main()
