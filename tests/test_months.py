"""Point 2: the months of years of every length, and how one goes on into the next."""

import unittest

import oracle
from eightcalendars.days import date, day

# Years below 0, about 0, of our time, and far off on both sides.
FROM_YEARS = (-1899999000, -4000, -30, 1, 1400, 1990, 5700, 1899999000)


def sample_years():
    """A kind and a year for each length that the kind has, from each of the years above on."""
    return [(kind, oracle.year_of_length(kind, days, y))
            for kind in oracle.KINDS for days in oracle.MONTHS[kind] for y in FROM_YEARS]


class Months(unittest.TestCase):
    def both(self, kind, y, m, d, number):
        self.assertEqual(day(kind, y, m, d), [0, number], (kind, y, m, d))
        self.assertEqual(date(kind, number), [0, y, m, d], (kind, number))

    def test_first_and_last_day_of_each_month(self):
        for kind, y in sample_years():
            number = oracle.start(kind, y)
            for m, days in enumerate(oracle.months(kind, y), start=1):
                self.both(kind, y, m, 1, number)
                self.both(kind, y, m, days, number + days - 1)
                number += days
            self.both(kind, y + 1, 1, 1, number)

    def test_every_day_of_a_year_of_each_length(self):
        for kind in oracle.KINDS:
            for length in oracle.MONTHS[kind]:
                y = oracle.year_of_length(kind, length, 1990)
                number = oracle.start(kind, y)
                for m, days in enumerate(oracle.months(kind, y), start=1):
                    for d in range(1, days + 1):
                        self.both(kind, y, m, d, number)
                        number += 1

    def test_no_day_beyond_a_month(self):
        for kind, y in sample_years():
            for m, days in enumerate(oracle.months(kind, y), start=1):
                self.assertEqual(day(kind, y, m, days + 1), [-1], (kind, y, m, days + 1))
                self.assertEqual(day(kind, y, m, 0), [-1], (kind, y, m, 0))
                self.assertEqual(day(kind, y, m, -1), [-1], (kind, y, m, -1))

    def test_no_month_beyond_a_year(self):
        for kind, y in sample_years():
            beyond = len(oracle.months(kind, y)) + 1
            for m in (beyond, beyond + 1, 0, -1, -beyond + 1):
                self.assertEqual(day(kind, y, m, 1), [-1], (kind, y, m, 1))


class LeapDays(unittest.TestCase):
    """The day or month that only some years have, in years known to have it or not."""

    def test_gregorian(self):
        self.assertEqual(day(0, 2000, 2, 29), [0, 730179])
        self.assertEqual(day(0, 1900, 2, 29), [-1])
        self.assertEqual(day(0, 2023, 2, 29), [-1])
        self.assertEqual(day(0, -4, 2, 30), [-1])

    def test_julian(self):
        self.assertEqual(day(1, 1900, 2, 29), [0, 693667])
        self.assertEqual(day(1, 1901, 2, 29), [-1])

    def test_hebrew(self):
        self.assertEqual(day(2, 5784, 13, 29), [0, 739161])
        self.assertEqual(day(2, 5785, 13, 1), [-1])

    def test_islamic(self):
        self.assertEqual(day(3, 1445, 12, 30)[0], 0)
        self.assertEqual(day(3, 1446, 12, 30), [-1])

    def test_coptic_and_ethiopian(self):
        self.assertEqual(day(4, 1739, 13, 6), [0, 738774])
        self.assertEqual(day(4, 1740, 13, 6), [-1])
        self.assertEqual(day(5, 2015, 13, 6), [0, 738774])
        self.assertEqual(day(5, 2016, 13, 6), [-1])

    def test_persian(self):
        self.assertEqual(day(6, 1399, 12, 30), [0, 737869])
        self.assertEqual(day(6, 1400, 12, 30), [-1])

    def test_weeks(self):
        self.assertEqual(day(7, 2020, 53, 7), [0, 737793])
        self.assertEqual(day(7, 2021, 53, 1), [-1])
        self.assertEqual(day(7, 2020, 54, 1), [-1])
        self.assertEqual(day(7, 2020, 1, 8), [-1])


if __name__ == "__main__":
    unittest.main()
