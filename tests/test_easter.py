"""Point 4: Easter of known years, of many years on both sides of 0, and of the years at the ends."""

import datetime
import unittest

import oracle
from eightcalendars.days import date, day, easter

# The Gregorian dates of Western Easter.
WESTERN = [
    (1583, 4, 10), (1598, 3, 22), (1666, 4, 25), (1693, 3, 22), (1700, 4, 11), (1761, 3, 22), (1818, 3, 22),
    (1886, 4, 25), (1900, 4, 15), (1913, 3, 23), (1943, 4, 25), (1954, 4, 18), (1961, 4, 2), (1967, 3, 26),
    (1981, 4, 19), (1999, 4, 4), (2000, 4, 23), (2008, 3, 23), (2011, 4, 24), (2016, 3, 27), (2019, 4, 21),
    (2024, 3, 31), (2025, 4, 20), (2026, 4, 5), (2038, 4, 25), (2049, 4, 18), (2076, 4, 19), (2285, 3, 22),
]

# The Gregorian dates of Eastern Easter.
EASTERN = [
    (1918, 5, 5), (1983, 5, 8), (2000, 4, 30), (2008, 4, 27), (2010, 4, 4), (2011, 4, 24), (2013, 5, 5),
    (2016, 5, 1), (2019, 4, 28), (2021, 5, 2), (2023, 4, 16), (2024, 5, 5), (2025, 4, 20), (2026, 4, 12),
]


def moon_left(y):
    """What is left by 30 in the Western rule, ahead of the 1 more."""
    c = y // 100 + 1
    return (14 + 11 * (y % 19) - 3 * c // 4 + (5 + 8 * c) // 25) % 30


class KnownYears(unittest.TestCase):
    def test_western(self):
        for expected in WESTERN:
            number = datetime.date(*expected).toordinal()
            self.assertEqual(easter(0, expected[0]), [0, number], expected)

    def test_eastern(self):
        for expected in EASTERN:
            number = datetime.date(*expected).toordinal()
            self.assertEqual(easter(1, expected[0]), [0, number], expected)

    def test_eastern_is_of_a_julian_year(self):
        self.assertEqual(date(1, easter(1, 1)[1]), [0, 1, 3, 27])
        self.assertEqual(date(1, easter(1, 1492)[1]), [0, 1492, 4, 22])
        # So far off, the Gregorian year in which the Julian year's Easter lies is another one.
        self.assertEqual(easter(1, 100000), day(1, 100000, *date(1, easter(1, 100000)[1])[2:]))
        self.assertNotEqual(date(0, easter(1, 100000)[1])[1], 100000)


class TheMoon(unittest.TestCase):
    """Years in which the Western rule has 1 more, and years in which it just hasn't."""

    def check(self, y, left, low, expected):
        self.assertEqual(moon_left(y), left)
        self.assertEqual(y % 19 > 10, not low)
        self.assertEqual(easter(0, y), [0, datetime.date(y, *expected).toordinal()], y)

    def test_nothing_left(self):
        # April 19, a Sunday, would make it April 26: with the 1 more, the day before is the moon's.
        self.check(1609, 0, False, (4, 19))
        self.check(1981, 0, True, (4, 19))
        self.check(2076, 0, True, (4, 19))

    def test_1_left_and_above_10(self):
        self.check(1954, 1, False, (4, 18))
        self.check(2049, 1, False, (4, 18))

    def test_1_left_and_not_above_10(self):
        # The moon's day stays April 18, a Sunday, and Easter is the one behind it.
        self.check(1734, 1, True, (4, 25))
        self.check(1886, 1, True, (4, 25))
        self.check(2326, 1, True, (4, 25))

    def test_1_left_at_10_and_at_11(self):
        for y in range(1, 40000):
            if moon_left(y) == 1 and y % 19 in (10, 11):
                self.assertEqual(easter(0, y), [0, oracle.western_easter(y)], y)

    def test_a_moon_on_a_sunday(self):
        # The moon's day is April 8, a Sunday.
        self.assertEqual(easter(0, 2001), [0, datetime.date(2001, 4, 15).toordinal()])
        for y in range(-300, 300):
            moon = day(1, y, 4, 19)[1] - (14 + 11 * (y % 19)) % 30
            if moon % 7 == 0:
                self.assertEqual(easter(1, y), [0, moon + 7], y)


class ManyYears(unittest.TestCase):
    def check(self, years):
        for y in years:
            self.assertEqual(easter(0, y), [0, oracle.western_easter(y)], y)
            self.assertEqual(easter(1, y), [0, oracle.eastern_easter(y)], y)

    def test_year_0_and_years_below(self):
        self.assertEqual(date(0, easter(0, 0)[1]), [0, 0, 4, 9])
        self.assertEqual(date(0, easter(0, -1)[1]), [0, -1, 4, 18])
        self.assertEqual(date(1, easter(1, 0)[1]), [0, 0, 4, 11])
        self.assertEqual(date(1, easter(1, -1)[1]), [0, -1, 4, 20])

    def test_years_about_0(self):
        self.check(range(-1500, 1500))

    def test_years_of_our_time(self):
        self.check(range(1500, 2600))

    def test_years_far_off(self):
        self.check(range(-6000000, 6000000, 4999))
        self.check(range(oracle.LOWEST_YEAR, oracle.HIGHEST_YEAR, 3999971))

    def test_lowest_and_highest_years(self):
        self.check(range(oracle.LOWEST_YEAR, oracle.LOWEST_YEAR + 100))
        self.check(range(oracle.HIGHEST_YEAR - 99, oracle.HIGHEST_YEAR + 1))

    def test_always_a_sunday(self):
        for y in range(-100, 100):
            self.assertEqual(easter(0, y)[1] % 7, 0, y)
            self.assertEqual(easter(1, y)[1] % 7, 0, y)


class Refusals(unittest.TestCase):
    def test_which(self):
        for which in (-1, 2, 3, 7, oracle.LOWEST_W, oracle.HIGHEST_W):
            for y in (0, 2000):
                self.assertEqual(easter(which, y), [-1], (which, y))

    def test_years(self):
        for which in (0, 1):
            for y in (oracle.LOWEST_YEAR - 1, oracle.HIGHEST_YEAR + 1, oracle.LOWEST_W, oracle.HIGHEST_W):
                self.assertEqual(easter(which, y), [-1], (which, y))

    def test_both_at_the_ends(self):
        for which in (oracle.LOWEST_W, oracle.HIGHEST_W):
            for y in (oracle.LOWEST_W, oracle.HIGHEST_W):
                self.assertEqual(easter(which, y), [-1], (which, y))


if __name__ == "__main__":
    unittest.main()
