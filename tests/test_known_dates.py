"""Points 1 to 3: dates known from elsewhere, and that day and date undo one another."""

import datetime
import unittest

import oracle
from eightcalendars.days import date, day

# A day, then its date in each of the eight calendars, in order.
KNOWN = [
    (-214193, [(-586, 7, 24), (-586, 7, 30), (3174, 11, 10), (-1245, 12, 9),
               (-870, 12, 6), (-594, 12, 6), (-1207, 5, 1), (-586, 29, 7)]),
    (710347, [(1945, 11, 12), (1945, 10, 30), (5706, 3, 7), (1364, 12, 6),
              (1662, 3, 3), (1938, 3, 3), (1324, 8, 21), (1945, 46, 1)]),
    (719163, [(1970, 1, 1), (1969, 12, 19), (5730, 4, 23), (1389, 10, 22),
              (1686, 4, 23), (1962, 4, 23), (1348, 10, 11), (1970, 1, 4)]),
    (764652, [(2094, 7, 18), (2094, 7, 5), (5854, 11, 5), (1518, 3, 5),
              (1810, 11, 11), (2086, 11, 11), (1473, 4, 28), (2094, 28, 7)]),
]

# A kind, a year of it, and the Gregorian date on which that year begins.
NEW_YEARS = [
    (1, 1901, (1901, 1, 14)),
    (2, 5784, (2023, 9, 16)),
    (2, 5785, (2024, 10, 3)),
    (2, 5786, (2025, 9, 23)),
    (4, 1740, (2023, 9, 12)),
    (5, 2016, (2023, 9, 12)),
    (6, 1400, (2021, 3, 21)),
    (7, 2009, (2008, 12, 29)),
    (7, 2010, (2010, 1, 4)),
    (7, 2021, (2021, 1, 4)),
]


class KnownDates(unittest.TestCase):
    def test_day(self):
        for number, dates in KNOWN:
            for kind, (y, m, d) in enumerate(dates):
                self.assertEqual(day(kind, y, m, d), [0, number], (kind, y, m, d))

    def test_date(self):
        for number, dates in KNOWN:
            for kind, (y, m, d) in enumerate(dates):
                self.assertEqual(date(kind, number), [0, y, m, d], (kind, number))

    def test_new_years(self):
        for kind, y, gregorian in NEW_YEARS:
            number = datetime.date(*gregorian).toordinal()
            self.assertEqual(day(kind, y, 1, 1), [0, number], (kind, y))
            self.assertEqual(date(kind, number), [0, y, 1, 1], (kind, number))

    def test_gregorian_and_weeks_by_python(self):
        for number in range(1, datetime.date.max.toordinal(), 397):
            there = datetime.date.fromordinal(number)
            gregorian = [there.year, there.month, there.day]
            weeks = list(there.isocalendar())
            self.assertEqual(date(0, number), [0] + gregorian)
            self.assertEqual(day(0, *gregorian), [0, number])
            self.assertEqual(date(7, number), [0] + weeks)
            self.assertEqual(day(7, *weeks), [0, number])


class ThereAndBack(unittest.TestCase):
    def check(self, kind, number):
        expected = oracle.date(kind, number)
        self.assertEqual(date(kind, number), [0, *expected], (kind, number))
        if oracle.LOWEST_YEAR <= expected[0] <= oracle.HIGHEST_YEAR:
            self.assertEqual(day(kind, *expected), [0, number], (kind, expected))

    def test_every_day_about_day_0(self):
        for kind in oracle.KINDS:
            for number in range(-800, 801):
                self.check(kind, number)

    def test_every_day_about_year_0(self):
        for kind in oracle.KINDS:
            for number in range(oracle.start(kind, -2), oracle.start(kind, 3)):
                self.check(kind, number)

    def test_days_near_and_far(self):
        for reach in (1000, 1000000, 1000000000, oracle.HIGHEST_DAY):
            for kind in oracle.KINDS:
                for many in range(250):
                    # A prime step, so that the days lie scattered and fall on all parts of a year.
                    self.check(kind, many * 15485863 * 32452843 % (2 * reach + 1) - reach)


class BelowZero(unittest.TestCase):
    def test_day_0_and_days_below(self):
        self.assertEqual(date(0, 0), [0, 0, 12, 31])
        self.assertEqual(date(0, -1), [0, 0, 12, 30])
        self.assertEqual(date(1, 0), [0, 1, 1, 2])
        self.assertEqual(date(1, -2), [0, 0, 12, 31])
        self.assertEqual(date(2, 0), [0, 3761, 4, 17])
        self.assertEqual(date(3, 0), [0, -640, 5, 17])
        self.assertEqual(date(4, 0), [0, -283, 5, 7])
        self.assertEqual(date(5, 0), [0, -7, 5, 7])
        self.assertEqual(date(6, 0), [0, -621, 10, 10])
        self.assertEqual(date(7, 0), [0, 0, 52, 7])

    def test_year_0_and_years_below(self):
        self.assertEqual(day(0, 0, 1, 1), [0, -365])
        self.assertEqual(day(0, 0, 2, 29), [0, -306])
        self.assertEqual(day(0, -1, 12, 31), [0, -366])
        self.assertEqual(day(1, 0, 1, 1), [0, -367])
        self.assertEqual(day(2, 0, 1, 1), [0, -1373811])
        self.assertEqual(day(2, -1, 1, 1), [0, -1374164])
        self.assertEqual(day(3, 0, 1, 1), [0, 226661])
        self.assertEqual(day(4, 0, 1, 1), [0, 103240])
        self.assertEqual(day(5, 0, 1, 1), [0, 2431])
        self.assertEqual(day(6, 0, 1, 1), [0, 226530])
        self.assertEqual(day(7, 0, 1, 1), [0, -363])


if __name__ == "__main__":
    unittest.main()
