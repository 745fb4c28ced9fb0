"""Point 7: the n-th day of the week in a month, from its beginning and from its end."""

import datetime
import unittest

import oracle
from eightcalendars.days import nth

FROM_YEARS = (-1899999000, -4000, 0, 1400, 1990, 5700, 1899999000)


def expected_nth(kind, y, m, w, n):
    days = [number for number in oracle.month_of(kind, y, m) if (number - 1) % 7 + 1 == w]
    if n == 0 or abs(n) > len(days):
        return [-1]
    return [0, days[n - 1] if n > 0 else days[n]]


class EachKind(unittest.TestCase):
    def check_month(self, kind, y, m):
        for w in range(1, 8):
            for n in range(-7, 8):
                self.assertEqual(nth(kind, y, m, w, n), expected_nth(kind, y, m, w, n), (kind, y, m, w, n))

    def test_every_month_of_years_of_each_length(self):
        for kind in oracle.KINDS:
            for length in oracle.MONTHS[kind]:
                for from_year in FROM_YEARS:
                    y = oracle.year_of_length(kind, length, from_year)
                    months = len(oracle.months(kind, y))
                    for m in (1, 2, 3, 5, 6, 7, 12, months - 1, months):
                        self.check_month(kind, y, m)

    def test_years_about_0(self):
        for kind in oracle.KINDS:
            for y in range(-3, 4):
                for m in (1, 2, len(oracle.months(kind, y))):
                    self.check_month(kind, y, m)

    def test_lowest_and_highest_year(self):
        for kind in oracle.KINDS:
            for y in (oracle.LOWEST_YEAR, oracle.HIGHEST_YEAR):
                for m in (1, len(oracle.months(kind, y))):
                    self.check_month(kind, y, m)


class Known(unittest.TestCase):
    def told(self, values, expected):
        self.assertEqual(nth(*values), [0, datetime.date(*expected).toordinal()], values)

    def test_holidays(self):
        self.told((0, 2024, 11, 4, 4), (2024, 11, 28))
        self.told((0, 2024, 5, 1, -1), (2024, 5, 27))
        self.told((0, 2024, 9, 1, 1), (2024, 9, 2))
        self.told((0, 2024, 3, 7, -1), (2024, 3, 31))

    def test_four_or_five(self):
        # February of 2024 has 29 days, from Thursday to Thursday; that of 2023 has 28.
        self.told((0, 2024, 2, 4, 5), (2024, 2, 29))
        self.told((0, 2024, 2, 4, -5), (2024, 2, 1))
        self.assertEqual(nth(0, 2024, 2, 5, 5), [-1])
        self.assertEqual(nth(0, 2024, 2, 5, -5), [-1])
        for w in range(1, 8):
            self.assertEqual(nth(0, 2023, 2, w, 4)[0], 0, w)
            self.assertEqual(nth(0, 2023, 2, w, -4)[0], 0, w)
            self.assertEqual(nth(0, 2023, 2, w, 5), [-1], w)
            self.assertEqual(nth(0, 2023, 2, w, -5), [-1], w)


class ShortMonths(unittest.TestCase):
    def test_thirteenth_month(self):
        for kind in (4, 5):
            for length in (365, 366):
                for from_year in range(1700, 1760):
                    y = oracle.year_of_length(kind, length, from_year)
                    days = oracle.month_of(kind, y, 13)
                    self.assertEqual(len(days), length - 360)
                    there = {(number - 1) % 7 + 1: number for number in days}
                    for w in range(1, 8):
                        once = [0, there[w]] if w in there else [-1]
                        self.assertEqual(nth(kind, y, 13, w, 1), once, (kind, y, w))
                        self.assertEqual(nth(kind, y, 13, w, -1), once, (kind, y, w))
                        self.assertEqual(nth(kind, y, 13, w, 2), [-1], (kind, y, w))
                        self.assertEqual(nth(kind, y, 13, w, -2), [-1], (kind, y, w))

    def test_weeks(self):
        for y in (-1, 0, 2020, 2021):
            for m in (1, 2, 52):
                monday = oracle.day(7, y, m, 1)
                for w in range(1, 8):
                    self.assertEqual(nth(7, y, m, w, 1), [0, monday + w - 1], (y, m, w))
                    self.assertEqual(nth(7, y, m, w, -1), [0, monday + w - 1], (y, m, w))
                    self.assertEqual(nth(7, y, m, w, 2), [-1], (y, m, w))
                    self.assertEqual(nth(7, y, m, w, -2), [-1], (y, m, w))


class Refusals(unittest.TestCase):
    def test_n_0(self):
        for kind in oracle.KINDS:
            for w in range(1, 8):
                self.assertEqual(nth(kind, 5, 1, w, 0), [-1], (kind, w))

    def test_n_far_off(self):
        for kind in oracle.KINDS:
            for w in (1, 7):
                for n in (6, -6, 100, -100, oracle.LOWEST_W, oracle.HIGHEST_W):
                    self.assertEqual(nth(kind, 5, 1, w, n), [-1], (kind, w, n))

    def test_days_of_the_week(self):
        for kind in oracle.KINDS:
            for w in (1, 7):
                self.assertEqual(nth(kind, 5, 1, w, 1), expected_nth(kind, 5, 1, w, 1))
                self.assertEqual(nth(kind, 5, 1, w, 1)[0], 0)
            for w in (0, 8, -1, -7, 14, oracle.LOWEST_W, oracle.HIGHEST_W):
                for n in (1, -1):
                    self.assertEqual(nth(kind, 5, 1, w, n), [-1], (kind, w, n))

    def test_no_such_month(self):
        for kind in oracle.KINDS:
            for length in oracle.MONTHS[kind]:
                y = oracle.year_of_length(kind, length, 1990)
                months = len(oracle.months(kind, y))
                for w in range(1, 8):
                    self.assertEqual(nth(kind, y, months, w, 1), expected_nth(kind, y, months, w, 1))
                    for m in (0, -1, -months, months + 1, oracle.LOWEST_W, oracle.HIGHEST_W):
                        for n in (1, -1):
                            self.assertEqual(nth(kind, y, m, w, n), [-1], (kind, y, m, w, n))

    def test_month_13_and_week_53(self):
        self.assertEqual(nth(2, 5784, 13, 1, 1)[0], 0)
        self.assertEqual(nth(2, 5785, 13, 1, 1), [-1])
        self.assertEqual(nth(7, 2020, 53, 1, 1)[0], 0)
        self.assertEqual(nth(7, 2021, 53, 1, 1), [-1])

    def test_years_beyond(self):
        for kind in oracle.KINDS:
            for y in (oracle.LOWEST_YEAR - 1, oracle.HIGHEST_YEAR + 1, oracle.LOWEST_W, oracle.HIGHEST_W):
                for n in (1, -1):
                    self.assertEqual(nth(kind, y, 1, 1, n), [-1], (kind, y, n))

    def test_no_such_kind(self):
        for kind in (-1, 8, oracle.LOWEST_W, oracle.HIGHEST_W):
            for n in (1, -1):
                self.assertEqual(nth(kind, 5, 1, 1, n), [-1], (kind, n))

    def test_all_at_the_ends(self):
        for kind in (oracle.LOWEST_W, 0, 7, oracle.HIGHEST_W):
            for y in (oracle.LOWEST_W, oracle.HIGHEST_W):
                for m in (oracle.LOWEST_W, oracle.HIGHEST_W):
                    for w in (oracle.LOWEST_W, oracle.HIGHEST_W):
                        for n in (oracle.LOWEST_W, oracle.HIGHEST_W):
                            self.assertEqual(nth(kind, y, m, w, n), [-1], (kind, y, m, w, n))


if __name__ == "__main__":
    unittest.main()
