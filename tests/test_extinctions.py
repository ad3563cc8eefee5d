import unittest

from lightcurves.stars import extinctions
from support import SIZES, OperationTest, scattered_images, table, unsigned


def answer(medians, amounts):
    return [0, len(medians)] + unsigned(medians) + [len(amounts)] + unsigned(amounts)


def median_by_count(values):
    """The median found without sorting: the value that covers the asked index."""
    index = (len(values) - 1) // 2
    for value in values:
        below = sum(other < value for other in values)
        not_above = sum(other <= value for other in values)
        if below <= index < not_above:
            return value


def expected(images):
    medians = [median_by_count(star) for star in zip(*images)]
    amounts = [median_by_count([image[star] - medians[star] for star in range(len(image))]) for image in images]
    return answer(medians, amounts)


class OrdinaryTables(OperationTest):
    def check(self, images, medians, amounts):
        self.assertEqual(extinctions(len(images[0]), table(images)), answer(medians, amounts))

    def test_one_star_in_one_image(self):
        self.check([[500]], [500], [0])
        self.check([[-500]], [-500], [0])
        self.check([[0]], [0], [0])

    def test_one_star_in_an_odd_number_of_images(self):
        self.check([[10], [30], [20]], [20], [-10, 10, 0])

    def test_one_star_in_an_even_number_of_images_takes_the_lower_middle(self):
        self.check([[30], [10]], [10], [20, 0])
        self.check([[10], [40], [20], [30]], [20], [-10, 20, 0, 10])

    def test_several_stars_in_one_image(self):
        self.check([[7, -8, 9]], [7, -8, 9], [0])

    def test_an_odd_number_of_stars(self):
        self.check([[100, 200, 300], [101, 205, 309], [90, 198, 299]], [100, 200, 300], [0, 5, -2])

    def test_an_even_number_of_stars_takes_the_lower_middle(self):
        self.check([[100, 200], [110, 230], [105, 215]], [105, 215], [-15, 5, 0])
        self.check([[0, 0, 0, 0], [4, 2, 1, 3], [-4, -3, -1, -2]], [0, 0, 0, 0], [0, 2, -3])

    def test_the_table_is_read_image_by_image(self):
        self.assertEqual(extinctions(2, [1, 2, 3, 4, 5, 6]), [0, 2, 3, 4, 3, 2 ** 32 - 2, 0, 2])
        self.assertEqual(extinctions(3, [1, 2, 3, 4, 5, 6]), [0, 3, 1, 2, 3, 2, 0, 3])

    def test_equal_values(self):
        self.check([[-3, -3], [-3, -3], [-3, -3]], [-3, -3], [0, 0, 0])
        self.check([[5, 5, 1], [5, 1, 5], [9, 9, 9]], [5, 5, 5], [0, 0, 4])

    def test_both_signs_sort_as_signed_numbers(self):
        self.check([[-10, 3], [0, -3], [10, 0]], [0, 0], [-10, -3, 0])
        self.check([[-1], [1]], [-1], [0, 2])

    def test_sizes_against_the_definitions(self):
        for seed, (star_count, image_count) in enumerate(SIZES):
            for bound in (2, 1000, 99999):
                images = scattered_images(star_count, image_count, bound, seed)
                self.assertEqual(extinctions(star_count, table(images)), expected(images))


class FormOfTheAnswer(OperationTest):
    def test_negative_medians_and_extinctions_have_2_to_the_32_added(self):
        self.assertEqual(extinctions(1, [2 ** 32 - 5, 2 ** 32 - 1, 2 ** 32 - 9]),
                         [0, 1, 2 ** 32 - 5, 3, 0, 4, 2 ** 32 - 4])

    def test_each_list_has_its_length_ahead(self):
        for star_count, image_count in SIZES:
            magnitudes = table(scattered_images(star_count, image_count))
            given = extinctions(star_count, magnitudes)
            self.check_form(given, 3 + star_count + image_count)
            self.assertEqual(given[1], star_count)
            self.assertEqual(given[2 + star_count], image_count)


class Edges(OperationTest):
    def test_smallest_and_greatest_magnitudes(self):
        self.assertEqual(extinctions(1, unsigned([99999])), [0, 1, 99999, 1, 0])
        self.assertEqual(extinctions(1, unsigned([-99999])), answer([-99999], [0]))

    def test_extinctions_beyond_the_range_of_magnitudes(self):
        self.assertEqual(extinctions(1, unsigned([99999, 99999, -99999])), answer([99999], [0, 0, -199998]))
        self.assertEqual(extinctions(1, unsigned([-99999, -99999, 99999])), answer([-99999], [0, 0, 199998]))

    def test_fewest_and_most_stars_and_images(self):
        self.assertEqual(extinctions(32, list(range(32))), answer(list(range(32)), [0]))
        self.assertEqual(extinctions(1, list(range(64))), answer([31], list(range(-31, 33))))
        images = [[100 * star + image for star in range(32)] for image in range(64)]
        self.assertEqual(extinctions(32, table(images)),
                         answer([100 * star + 31 for star in range(32)], list(range(-31, 33))))


class Errors(OperationTest):
    def test_counts_outside_their_ranges(self):
        self.check_table_size_errors(extinctions)

    def test_no_magnitudes(self):
        self.check_magnitude_errors(extinctions)

    def test_order(self):
        self.check_error_order(extinctions)


class Purity(OperationTest):
    def test_nothing_is_changed_or_kept(self):
        self.check_pure(extinctions, 3, table(scattered_images(3, 4)))
        self.check_pure(extinctions, 1, [2 ** 32 - 1])
        self.check_pure(extinctions, 0, [])
        self.check_pure(extinctions, 2, [100000, 1])


if __name__ == "__main__":
    unittest.main()
