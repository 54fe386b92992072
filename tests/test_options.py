"""Points 14 to 16: the options, the durations and delays, the longest rendering and latency."""

import unittest

from pagesatonce.errors import OutOfRange, PageError
from pagesatonce.options import check_options, delay, duration, longest_latency, longest_rendering

NAMES = ["together", "unit", "attempts", "delay", "delay_most", "pause", "wait"]
LEAST = (1, 1, 1, 1, 1, 1, 1)
MOST = (3, 100, 4, 100, 400, 200, 2000)
USUAL = (2, 10, 3, 5, 15, 20, 100)


def changed(options, at, value):
    return options[:at] + (value,) + options[at + 1:]


class CheckOptions(unittest.TestCase):
    def assert_refused(self, options):
        with self.assertRaises(OutOfRange) as caught:
            check_options(options)
        self.assertEqual(caught.exception.name, "options")
        self.assertIsInstance(caught.exception, PageError)

    def test_options_within_their_bounds(self):
        for options in (LEAST, MOST, USUAL):
            self.assertIsNone(check_options(options))

    def test_each_option_at_its_bounds(self):
        for at, name in enumerate(NAMES):
            for options in (LEAST, MOST, USUAL):
                self.assertIsNone(check_options(changed(options, at, LEAST[at])), name)
                self.assertIsNone(check_options(changed(options, at, MOST[at])), name)

    def test_each_option_beyond_its_bounds(self):
        for at, name in enumerate(NAMES):
            for options in (LEAST, MOST, USUAL):
                for value in (LEAST[at] - 1, -1, MOST[at] + 1, MOST[at] * 1000):
                    with self.subTest(name=name, value=value):
                        self.assert_refused(changed(options, at, value))

    def test_several_options_beyond_their_bounds(self):
        self.assert_refused((0, 0, 0, 0, 0, 0, 0))
        self.assert_refused((4, 101, 5, 101, 401, 201, 2001))

    def test_the_first_delay_may_be_greater_than_the_greatest(self):
        self.assertIsNone(check_options((1, 1, 1, 100, 1, 1, 1)))


class Duration(unittest.TestCase):
    def test_without_and_with_dependencies(self):
        self.assertEqual([duration(USUAL, many) for many in (0, 1, 2, 30)], [10, 20, 30, 310])
        self.assertEqual([duration(LEAST, many) for many in (0, 1, 2, 30)], [1, 2, 3, 31])
        self.assertEqual([duration(MOST, many) for many in (0, 1, 2, 30)], [100, 200, 300, 3100])


class Delay(unittest.TestCase):
    def test_it_doubles(self):
        options = (1, 1, 4, 3, 400, 1, 1)
        self.assertEqual([delay(options, attempt) for attempt in (1, 2, 3, 4)], [3, 6, 12, 24])

    def test_it_is_at_most_the_greatest_delay(self):
        self.assertEqual([delay(USUAL, attempt) for attempt in (1, 2, 3, 4)], [5, 10, 15, 15])

    def test_below_at_and_above_the_greatest_delay(self):
        for most, expected in ((41, 40), (40, 40), (39, 39)):
            self.assertEqual(delay((1, 1, 4, 10, most, 1, 1), 3), expected)

    def test_the_first_one_may_be_greater_than_the_greatest(self):
        self.assertEqual([delay((1, 1, 4, 100, 7, 1, 1), attempt) for attempt in (1, 2, 3)], [7, 7, 7])

    def test_the_bounds(self):
        self.assertEqual([delay(MOST, attempt) for attempt in (1, 2, 3, 4)], [100, 200, 400, 400])
        self.assertEqual([delay(LEAST, attempt) for attempt in (1, 2, 3, 4)], [1, 1, 1, 1])


class Longest(unittest.TestCase):
    def test_the_longest_rendering(self):
        self.assertEqual(longest_rendering(LEAST), 12 * 31)
        self.assertEqual(longest_rendering(USUAL), 12 * (3 * 10 * 31 + 5 + 10))
        self.assertEqual(longest_rendering(MOST), 12 * (4 * 100 * 31 + 100 + 200 + 400))

    def test_there_is_no_delay_after_the_last_attempt(self):
        self.assertEqual(longest_rendering((3, 1, 1, 100, 400, 1, 1)), 12 * 31)
        self.assertEqual(longest_rendering((3, 1, 2, 100, 400, 1, 1)), 12 * (2 * 31 + 100))

    def test_the_longest_latency_with_a_long_rendering(self):
        self.assertEqual(longest_latency(USUAL), 2 * longest_rendering(USUAL))
        self.assertEqual(longest_latency(changed(LEAST, 6, 371)), 372 + 372)
        self.assertEqual(longest_latency(changed(LEAST, 6, 372)), 372 + 372)

    def test_the_longest_latency_with_a_long_wait(self):
        self.assertEqual(longest_latency(changed(LEAST, 6, 373)), 372 + 373)
        self.assertEqual(longest_latency(changed(LEAST, 6, 2000)), 372 + 2000)


if __name__ == "__main__":
    unittest.main()
