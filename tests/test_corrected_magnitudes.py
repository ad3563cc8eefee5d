import unittest

from lightcurves.stars import corrected_magnitudes, extinctions
from support import SIZES, OperationTest, scattered_images, scattered_numbers, signed, table, unsigned


def medians_of(images):
    star_count = len(images[0])
    return extinctions(star_count, table(images))[2:2 + star_count]


class OrdinaryTables(OperationTest):
    def check(self, images, corrected):
        self.assertEqual(corrected_magnitudes(len(images[0]), table(images)), [0] + table(corrected))

    def test_one_star_becomes_its_median(self):
        self.check([[500]], [[500]])
        self.check([[10], [30], [20]], [[20], [20], [20]])
        self.check([[10], [40], [20], [30]], [[20], [20], [20], [20]])
        self.check([[-10], [10]], [[-10], [-10]])

    def test_one_image_stays(self):
        self.check([[7, -8, 9]], [[7, -8, 9]])
        self.check([[7, -8, 9, 0]], [[7, -8, 9, 0]])

    def test_an_odd_number_of_stars(self):
        self.check([[100, 200, 300], [101, 205, 309], [90, 198, 299]],
                   [[100, 200, 300], [96, 200, 304], [92, 200, 301]])

    def test_an_even_number_of_stars(self):
        self.check([[100, 200], [110, 230], [105, 215]], [[115, 215], [105, 225], [105, 215]])
        self.check([[0, 0, 0, 0], [4, 2, 1, 3], [-4, -3, -1, -2]],
                   [[0, 0, 0, 0], [2, 0, -1, 1], [-1, 0, 2, 1]])

    def test_an_even_number_of_images(self):
        self.check([[1, 20, 300], [3, 24, 305]], [[1, 20, 300], [-1, 20, 301]])

    def test_the_table_is_read_image_by_image(self):
        self.assertEqual(corrected_magnitudes(2, [1, 2, 3, 4, 5, 7]), [0, 3, 4, 3, 4, 3, 5])
        self.assertEqual(corrected_magnitudes(3, [1, 2, 3, 4, 5, 7]), [0, 1, 2, 3, 1, 2, 4])

    def test_equal_values(self):
        self.check([[-3, -3], [-3, -3]], [[-3, -3], [-3, -3]])

    def test_sizes_against_the_extinctions(self):
        for seed, (star_count, image_count) in enumerate(SIZES):
            for bound in (2, 1000, 99999):
                images = scattered_images(star_count, image_count, bound, seed)
                amounts = signed(extinctions(star_count, table(images))[3 + star_count:])
                self.check(images, [[magnitude - amount for magnitude in image]
                                    for image, amount in zip(images, amounts)])


class FormOfTheAnswer(OperationTest):
    def test_negative_magnitudes_have_2_to_the_32_added(self):
        self.assertEqual(corrected_magnitudes(1, [2 ** 32 - 5, 2 ** 32 - 1, 2 ** 32 - 9]),
                         [0, 2 ** 32 - 5, 2 ** 32 - 5, 2 ** 32 - 5])

    def test_the_table_has_no_length_ahead(self):
        for star_count, image_count in SIZES:
            magnitudes = table(scattered_images(star_count, image_count))
            self.check_form(corrected_magnitudes(star_count, magnitudes), 1 + star_count * image_count)


class Edges(OperationTest):
    def test_smallest_and_greatest_magnitudes(self):
        self.assertEqual(corrected_magnitudes(1, [99999]), [0, 99999])
        self.assertEqual(corrected_magnitudes(1, unsigned([-99999])), [0, 2 ** 32 - 99999])

    def test_corrected_magnitudes_beyond_the_range_of_magnitudes(self):
        high, low = 99999, -99999
        self.assertEqual(corrected_magnitudes(2, table([[high, high], [high, high], [low, high]])),
                         [0] + table([[high, high], [high, high], [high, 299997]]))
        self.assertEqual(corrected_magnitudes(3, table([[low] * 3, [low] * 3, [high, high, low]])),
                         [0] + table([[low] * 3, [low] * 3, [low, low, -299997]]))

    def test_most_stars_and_images(self):
        images = [[100 * star + image for star in range(32)] for image in range(64)]
        self.assertEqual(corrected_magnitudes(32, table(images)),
                         [0] + [100 * star + 31 for star in range(32)] * 64)
        self.assertEqual(corrected_magnitudes(32, list(range(32))), [0] + list(range(32)))
        self.assertEqual(corrected_magnitudes(1, list(range(64))), [0] + [31] * 64)


class Errors(OperationTest):
    def test_counts_outside_their_ranges(self):
        self.check_table_size_errors(corrected_magnitudes)

    def test_no_magnitudes(self):
        self.check_magnitude_errors(corrected_magnitudes)

    def test_order(self):
        self.check_error_order(corrected_magnitudes)


class RequirementOne(OperationTest):
    """An amount added to an image that leaves the medians of the stars leaves the corrected magnitudes."""

    def check_same(self, images, changed):
        star_count = len(images[0])
        self.assertEqual(medians_of(changed), medians_of(images))
        self.assertNotEqual(changed, images)
        self.assertEqual(corrected_magnitudes(star_count, table(changed)),
                         corrected_magnitudes(star_count, table(images)))

    def test_a_written_table(self):
        images = [[10, 20], [13, 25], [19, 31]]
        self.check_same(images, [[10, 20], [13, 25], [519, 531]])
        self.check_same(images, [[-990, -980], [13, 25], [19, 31]])
        self.assertEqual(corrected_magnitudes(2, table([[-990, -980], [13, 25], [519, 531]])),
                         [0, 15, 25, 13, 25, 13, 25])

    def test_the_brightest_and_the_faintest_image_moved_outwards(self):
        for star_count, image_count in ((1, 3), (2, 3), (3, 5), (4, 4), (32, 64)):
            images = scattered_images(star_count, image_count, 1000, star_count)
            images[0] = scattered_numbers(star_count, 500, 8)
            images[0] = [magnitude - 2000 for magnitude in images[0]]
            images[-1] = [magnitude + 2000 for magnitude in images[-1]]
            for amount in (1, 2, 777, 90000):
                self.check_same(images, [[magnitude - amount for magnitude in images[0]]] + images[1:])
                self.check_same(images, images[:-1] + [[magnitude + amount for magnitude in images[-1]]])

    def test_small_tables_wherever_the_medians_stay(self):
        cases = 0
        for seed in range(300):
            images = scattered_images(1 + seed % 4, 3 + seed % 3, 9, seed)
            for amount in (-5, -1, 1, 5):
                changed = [[magnitude + amount for magnitude in images[0]]] + images[1:]
                if medians_of(changed) == medians_of(images):
                    self.check_same(images, changed)
                    cases += 1
        self.assertGreater(cases, 100)


class Purity(OperationTest):
    def test_nothing_is_changed_or_kept(self):
        self.check_pure(corrected_magnitudes, 3, table(scattered_images(3, 4)))
        self.check_pure(corrected_magnitudes, 1, [2 ** 32 - 1])
        self.check_pure(corrected_magnitudes, 0, [])
        self.check_pure(corrected_magnitudes, 2, [100000, 1])


if __name__ == "__main__":
    unittest.main()
