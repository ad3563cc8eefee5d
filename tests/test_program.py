"""What holds for all functions of the interface alike."""

import contextlib
import copy
import inspect
import io
import os
import subprocess
import sys
import unittest

from lightcurves import stars
from support import OperationTest, scattered_images, scattered_numbers, scattered_times, table, unsigned

LAST = 2 ** 32 - 1

# The arguments of each function, as the document names them.
INTERFACE = {
    "extinctions": ["star_count", "magnitudes"],
    "corrected_magnitudes": ["star_count", "magnitudes"],
    "scatters": ["star_count", "magnitudes"],
    "differential_magnitudes": ["star_count", "star", "weights", "magnitudes"],
    "variable_stars": ["star_count", "factor", "magnitudes"],
    "fold": ["period", "times", "magnitudes"],
    "search_periods": ["criterion", "bins", "first", "step", "trials", "times", "magnitudes"],
    "best_box": ["period", "bins", "max_width", "times", "magnitudes"],
    "parabola_minimum": ["time", "step", "a", "b", "c"],
    "asymmetry": ["tolerance", "time", "times", "magnitudes"],
    "phase": ["period", "time"],
}

# Functions whose lists hold 64-bit integers; the others answer 32-bit integers.
WITH_64_BITS = ["scatters", "search_periods", "best_box", "parabola_minimum", "asymmetry"]

TABLE = unsigned([100, -200, 110, -230, 105, -215])
TIMES = [7, 0, 3, 2, 9, 4, 4, 1]
SERIES = unsigned([30, -10, 50, 10, 0, -99999, 99999, 7])

# Calls with their answers, at least one of each function.
ORDINARY = [
    ("extinctions", (2, TABLE), [0, 2, 105, LAST - 214, 3] + unsigned([-5, -15, 0])),
    ("extinctions", (1, [0]), [0, 1, 0, 1, 0]),
    ("corrected_magnitudes", (2, TABLE), [0] + unsigned([105, -195, 125, -215, 105, -215])),
    ("scatters", (2, TABLE), [0, 4266, 38400]),
    ("differential_magnitudes", (2, 0, [3, 1], TABLE), [0, 300, 340, 320]),
    ("differential_magnitudes", (2, 1, [3, 1], TABLE), [0] + unsigned([-300, -340, -320])),
    ("variable_stars", (2, 5, TABLE), [1, 1]),
    ("variable_stars", (2, 65535, TABLE), [0]),
    ("fold", (4, TIMES, SERIES),
     [0, 8, 0, 0, 0, 16384, 16384, 32768, 49152, 49152, 8] + unsigned([-10, -99999, 99999, 0, 7, 10, 30, 50])),
    ("fold", (1, [], []), [0, 0, 0]),
    ("search_periods", (0, 2, 4, 5, 2, TIMES, SERIES), [0, 400096, 400116]),
    ("search_periods", (1, 2, 4, 96, 2, [1, 3, 5], [10, 30, 50]), [0, 800, 800]),
    ("best_box", (4, 4, 2, [0, 1, 2, 3], [5, 5, 90, 5]), [0, 2, 1, 255]),
    ("best_box", (4, 4, 2, [], []), [0, 0, 0, 0]),
    ("parabola_minimum", (100, 10, 30, 10, 20), [0, 102]),
    ("parabola_minimum", (LAST, 10, 20, 10, 30), [0, 2 ** 64 - 3]),
    ("asymmetry", (1, 4, TIMES, SERIES), [0, 100132]),
    ("asymmetry", (LAST, LAST, [], []), [0, 0]),
    ("phase", (10, 23), [19660]),
    ("phase", (0, LAST), [0]),
]

# Calls that are refused: each error code of each function.
REFUSED = [
    ("extinctions", (0, []), [-2]),
    ("extinctions", (2, TABLE[:5] + [100000]), [-3]),
    ("corrected_magnitudes", (1, [5] * 65), [-2]),
    ("corrected_magnitudes", (2, TABLE[:5] + [100000]), [-3]),
    ("scatters", (33, [5] * 66), [-2]),
    ("scatters", (2, TABLE[:5] + [100000]), [-3]),
    ("differential_magnitudes", (2, 0, [1, 65536], TABLE), [-2]),
    ("differential_magnitudes", (2, 2, [1, 1], TABLE[:5] + [100000]), [-3]),
    ("differential_magnitudes", (2, 2, [1, 1], TABLE), [-4]),
    ("variable_stars", (2, 65536, TABLE), [-2]),
    ("variable_stars", (2, 5, TABLE[:5] + [100000]), [-3]),
    ("fold", (0, TIMES, SERIES), [-2]),
    ("fold", (4, [3, 2], [1, 100000]), [-3]),
    ("search_periods", (2, 2, 4, 5, 2, TIMES, SERIES), [-2]),
    ("search_periods", (0, 2, 4, 5, 2, [3, 2], [1, 100000]), [-3]),
    ("best_box", (4, 65, 2, TIMES, SERIES), [-2]),
    ("best_box", (4, 4, 2, [3, 2], [1, 100000]), [-3]),
    ("parabola_minimum", (100, 0, 30, 10, 20), [-2]),
    ("asymmetry", (0, 4, [9] * 1025, [5] * 1025), [-2]),
    ("asymmetry", (0, 4, [3, 2], [1, 100000]), [-3]),
]

LARGE_TABLE = table(scattered_images(32, 64))
LARGE_TIMES = scattered_times(1024)
LARGE_SERIES = unsigned(scattered_numbers(1024, 99999, 2))

# The largest input that each function takes, where it depends on its lists.
LARGE = [
    ("extinctions", (32, LARGE_TABLE)),
    ("corrected_magnitudes", (32, LARGE_TABLE)),
    ("scatters", (32, LARGE_TABLE)),
    ("differential_magnitudes", (32, 31, [65535] * 32, LARGE_TABLE)),
    ("variable_stars", (32, 0, LARGE_TABLE)),
    ("fold", (16777216, LARGE_TIMES, LARGE_SERIES)),
    ("search_periods", (0, 64, 16777216, 65536, 64, LARGE_TIMES, LARGE_SERIES)),
    ("search_periods", (1, 64, 16777216, 65536, 64, LARGE_TIMES, LARGE_SERIES)),
    ("best_box", (16777216, 64, 64, LARGE_TIMES, LARGE_SERIES)),
    ("parabola_minimum", (2 ** 31, 65536, 2 ** 31, LAST, 2 ** 31 - 1)),
    ("asymmetry", (10 ** 6, LAST, LARGE_TIMES, LARGE_SERIES)),
    ("phase", (LAST, LAST)),
]

SMALL_CALLS = [(name, arguments) for name, arguments, answer in ORDINARY + REFUSED]


def function(name):
    return getattr(stars, name)


class FixedList(list):
    """A list that fails where something changes it, be it for a while only."""

    def refuse(self, *arguments, **keywords):
        raise AssertionError("what was handed in is changed")

    append = clear = extend = insert = pop = remove = reverse = sort = refuse
    __setitem__ = __delitem__ = __iadd__ = __imul__ = refuse


def fixed(argument):
    return FixedList(argument) if isinstance(argument, list) else argument


class Interface(unittest.TestCase):
    def test_names_and_arguments(self):
        for name, arguments in INTERFACE.items():
            parameters = inspect.signature(function(name)).parameters.values()
            self.assertEqual([parameter.name for parameter in parameters], arguments)
            for parameter in parameters:
                self.assertEqual(parameter.kind, inspect.Parameter.POSITIONAL_OR_KEYWORD)
                self.assertIs(parameter.default, inspect.Parameter.empty)

    def test_plain_functions_of_their_module(self):
        for name in INTERFACE:
            self.assertTrue(inspect.isfunction(function(name)))
            self.assertEqual(function(name).__module__, "lightcurves.stars")
            self.assertEqual(function(name).__name__, name)

    def test_each_function_is_called_below(self):
        for calls in (ORDINARY, LARGE):
            self.assertEqual(list(dict.fromkeys(call[0] for call in calls)), list(INTERFACE))
        self.assertEqual({call[0] for call in REFUSED}, set(INTERFACE) - {"phase"})

    def test_calls_by_place_and_by_name(self):
        for name, arguments, answer in ORDINARY + REFUSED:
            self.assertEqual(function(name)(*arguments), answer)
            self.assertEqual(function(name)(**dict(zip(INTERFACE[name], arguments))), answer)


class Answers(unittest.TestCase):
    def check_numbers(self, name, answer, smallest, greatest):
        self.assertIs(type(answer), list, name)
        self.assertGreater(len(answer), 0, name)
        for number in answer:
            self.assertIs(type(number), int, name)
            self.assertGreaterEqual(number, smallest, name)
            self.assertLessEqual(number, greatest, name)

    def test_lists_of_whole_numbers_from_0(self):
        for name, arguments in [call[:2] for call in ORDINARY] + LARGE:
            greatest = 2 ** 64 - 1 if name in WITH_64_BITS else LAST
            self.check_numbers(name, function(name)(*arguments), 0, greatest)

    def test_only_an_error_code_is_below_0(self):
        for name, arguments, answer in REFUSED:
            given = function(name)(*arguments)
            self.check_numbers(name, given, -4, -2)
            self.assertEqual(len(given), 1)

    def test_fewer_than_a_million_numbers(self):
        for name, arguments in LARGE:
            self.assertLess(len(function(name)(*arguments)), 10 ** 6)

    def test_a_first_number_that_is_no_error(self):
        for name, arguments in [call[:2] for call in ORDINARY] + LARGE:
            if name not in ("variable_stars", "search_periods", "phase"):
                self.assertEqual(function(name)(*arguments)[0], 0)


class PureFunctions(OperationTest):
    def test_nothing_is_changed_or_kept(self):
        for name, arguments in SMALL_CALLS + LARGE:
            self.check_pure(function(name), *arguments)

    def test_nothing_is_changed_for_a_while(self):
        for name, arguments in SMALL_CALLS + LARGE:
            answer = function(name)(*arguments)
            self.assertEqual(function(name)(*[fixed(argument) for argument in arguments]), answer)

    def test_what_is_handed_in_is_not_given_back(self):
        for name, arguments in SMALL_CALLS + LARGE:
            answer = function(name)(*arguments)
            self.assertFalse(any(answer is argument for argument in arguments))

    def test_no_call_depends_on_the_ones_ahead_of_it(self):
        answers = [function(name)(*copy.deepcopy(arguments)) for name, arguments in SMALL_CALLS]
        for name, arguments in SMALL_CALLS:
            for place, (later, later_arguments) in enumerate(SMALL_CALLS):
                function(name)(*arguments)
                self.assertEqual(function(later)(*later_arguments), answers[place])

    def test_no_large_call_depends_on_the_ones_ahead_of_it(self):
        answers = [function(name)(*arguments) for name, arguments in LARGE]
        again = [function(name)(*arguments) for name, arguments in reversed(LARGE)]
        self.assertEqual(list(reversed(again)), answers)

    def test_equal_arguments_that_are_other_lists(self):
        for name, arguments in SMALL_CALLS:
            self.assertEqual(function(name)(*copy.deepcopy(arguments)), function(name)(*arguments))

    def test_one_list_handed_in_twice(self):
        numbers = [5, 3, 9, 3]
        for name, scalars in (("fold", (4,)), ("search_periods", (1, 4, 4, 1, 3)), ("best_box", (4, 4, 2)),
                              ("asymmetry", (3, 5)), ("differential_magnitudes", (4, 1))):
            given = function(name)(*scalars, numbers, numbers)
            self.assertEqual(given, function(name)(*scalars, list(numbers), list(numbers)))
            self.assertEqual(numbers, [5, 3, 9, 3])


# Makes all small calls, then names the packages that this and the import of the program brought in.
CALLING_PROGRAM = f"""
import sys
before = set(sys.modules)
from lightcurves import stars
for name, arguments in {[list(call) for call in SMALL_CALLS]!r}:
    getattr(stars, name)(*arguments)
print(sorted({{name.split(".")[0] for name in set(sys.modules) - before}}))
"""


class Quiet(unittest.TestCase):
    def test_nothing_is_printed(self):
        printed = io.StringIO()
        with contextlib.redirect_stdout(printed), contextlib.redirect_stderr(printed):
            for name, arguments in SMALL_CALLS:
                function(name)(*arguments)
        self.assertEqual(printed.getvalue(), "")

    def test_nothing_else_is_printed_read_or_imported_in_a_process_of_its_own(self):
        environment = dict(os.environ, PYTHONPATH=os.pathsep.join(sys.path))
        # Without -S Python may have imported much of its own by itself.
        found = subprocess.run([sys.executable, "-S", "-c", CALLING_PROGRAM], env=environment, check=True,
                               stdin=subprocess.DEVNULL, capture_output=True, text=True)
        self.assertEqual(found.stdout, "['lightcurves']\n")
        self.assertEqual(found.stderr, "")

    def test_few_calls_within_one_another(self):
        limit = sys.getrecursionlimit()
        sys.setrecursionlimit(len(inspect.stack(0)) + 60)
        try:
            answers = [function(name)(*arguments) for name, arguments in LARGE]
        finally:
            sys.setrecursionlimit(limit)
        for answer in answers:
            self.assertGreaterEqual(answer[0], 0)


if __name__ == "__main__":
    unittest.main()
