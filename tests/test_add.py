"""Point 5: months further and back, for each kind, and the day cut to the month's last."""

import unittest

import oracle
from eightcalendars.days import add, date, day

MOST = 120000

STEPS = (0, 1, -1, 2, -2, 5, -7, 11, 12, -12, 13, -13, 19, 25, -40, 52, -52, 53, 54, -53, -54, 105, 235, -235,
         600, -601, 4999, -5000, 37777, -99991)


def last_date(kind, y):
    months = oracle.months(kind, y)
    return y, len(months), months[-1]


class AddCase(unittest.TestCase):
    def check(self, kind, start, n):
        expected = oracle.add_months(kind, start, n)
        self.assertEqual(add(kind, *start, n), [0, *expected], (kind, start, n))

    def told(self, kind, start, n, expected):
        self.assertEqual(add(kind, *start, n), [0, *expected], (kind, start, n))


class EachKind(AddCase):
    def test_from_dates_on_both_sides_of_year_0(self):
        for kind in oracle.KINDS:
            for y in (-6000, -401, -1, 0, 1, 4, 1445, 2023, 5784):
                for start in ((y, 1, 1), (y, 2, 7), (y, 12, 5), last_date(kind, y)):
                    for n in STEPS:
                        self.check(kind, start, n)

    def test_every_step_of_some_years(self):
        for kind in oracle.KINDS:
            for start in (last_date(kind, 2020), (0, 1, 1)):
                for n in range(-250, 251):
                    self.check(kind, start, n)

    def test_over_year_0(self):
        for kind in oracle.KINDS:
            self.told(kind, (0, 1, 3), -1, (-1, len(oracle.months(kind, -1)), 3))
            self.told(kind, (-1, len(oracle.months(kind, -1)), 3), 1, (0, 1, 3))
            self.told(kind, (1, 1, 3), -1, (0, len(oracle.months(kind, 0)), 3))

    def test_nothing_added(self):
        for kind in oracle.KINDS:
            for number in range(-70000, 760000, 9973):
                found = date(kind, number)[1:]
                self.told(kind, found, 0, found)

    def test_known(self):
        self.told(0, (2023, 12, 15), 1, (2024, 1, 15))
        self.told(0, (2024, 1, 15), -1, (2023, 12, 15))
        self.told(0, (2024, 3, 15), 1200, (2124, 3, 15))
        self.told(1, (1582, 10, 4), 12, (1583, 10, 4))
        self.told(3, (1445, 12, 8), 1, (1446, 1, 8))
        self.told(4, (1740, 13, 3), 1, (1741, 1, 3))
        self.told(5, (2016, 1, 30), 13, (2017, 1, 30))
        self.told(6, (1402, 12, 29), 1, (1403, 1, 29))


class Hebrew(AddCase):
    """5784 has thirteen months; 5783 and 5785 have twelve."""

    def test_from_thirteen_months_into_twelve(self):
        self.told(2, (5784, 13, 29), 1, (5785, 1, 29))
        self.told(2, (5784, 13, 1), 13, (5786, 1, 1))
        self.told(2, (5784, 6, 15), 13, (5785, 6, 15))
        self.told(2, (5784, 6, 15), 12, (5785, 5, 15))
        self.told(2, (5784, 1, 1), -1, (5783, 12, 1))
        self.told(2, (5784, 13, 29), -13, (5783, 12, 29))

    def test_from_twelve_months_into_thirteen(self):
        self.told(2, (5783, 12, 29), 1, (5784, 1, 29))
        self.told(2, (5783, 12, 29), 13, (5784, 13, 29))
        self.told(2, (5783, 12, 29), 14, (5785, 1, 29))
        self.told(2, (5785, 1, 1), -1, (5784, 13, 1))
        self.told(2, (5785, 12, 1), -12, (5784, 13, 1))

    def test_a_whole_cycle(self):
        for y in range(-20, 20):
            self.told(2, (y, 3, 10), 235, (y + 19, 3, 10))
            self.told(2, (y, 3, 10), -235, (y - 19, 3, 10))
            self.check(2, (y, 1, 1), len(oracle.months(2, y)))
            self.told(2, (y, 1, 1), len(oracle.months(2, y)), (y + 1, 1, 1))
            self.told(2, (y + 1, 1, 1), -1, (y, len(oracle.months(2, y)), 1))


class Weeks(AddCase):
    """2020 has 53 weeks; 2019 and 2021 have 52."""

    def test_weeks_of_52_and_of_53(self):
        self.told(7, (2020, 52, 7), 1, (2020, 53, 7))
        self.told(7, (2020, 53, 7), 1, (2021, 1, 7))
        self.told(7, (2020, 1, 4), 53, (2021, 1, 4))
        self.told(7, (2020, 53, 4), 52, (2021, 52, 4))
        self.told(7, (2020, 53, 4), 53, (2022, 1, 4))
        self.told(7, (2019, 52, 1), 1, (2020, 1, 1))
        self.told(7, (2021, 1, 1), -1, (2020, 53, 1))
        self.told(7, (2020, 1, 1), -1, (2019, 52, 1))

    def test_always_seven_days(self):
        for y in (-800, -1, 0, 1, 2004, 2020):
            for n in STEPS:
                begin = day(7, y, 52, 6)[1]
                self.assertEqual(add(7, y, 52, 6, n), date(7, begin + 7 * n), (y, n))


class DayCut(AddCase):
    def test_gregorian_and_julian(self):
        for kind in (0, 1):
            self.told(kind, (2024, 1, 31), 1, (2024, 2, 29))
            self.told(kind, (2023, 1, 31), 1, (2023, 2, 28))
            self.told(kind, (2023, 1, 30), 1, (2023, 2, 28))
            self.told(kind, (2023, 1, 28), 1, (2023, 2, 28))
            self.told(kind, (2023, 1, 31), 2, (2023, 3, 31))
            self.told(kind, (2023, 3, 31), 1, (2023, 4, 30))
            self.told(kind, (2024, 2, 29), 12, (2025, 2, 28))
            self.told(kind, (2024, 2, 29), -12, (2023, 2, 28))
            self.told(kind, (2024, 2, 29), 48, (2028, 2, 29))
        self.told(0, (2000, 2, 29), -1200, (1900, 2, 28))
        self.told(1, (2000, 2, 29), -1200, (1900, 2, 29))

    def test_hebrew(self):
        # The second month has 30 days in 5785 and 29 in 5784, the third 29 in 5784 alone.
        self.told(2, (5784, 1, 30), 1, (5784, 2, 29))
        self.told(2, (5784, 1, 30), 2, (5784, 3, 29))
        self.told(2, (5785, 1, 30), 1, (5785, 2, 30))
        self.told(2, (5785, 2, 30), -13, (5784, 2, 29))
        self.told(2, (5784, 6, 30), 1, (5784, 7, 29))
        self.told(2, (5784, 6, 30), -12, (5783, 6, 29))

    def test_islamic(self):
        self.told(3, (1445, 1, 30), 1, (1445, 2, 29))
        self.told(3, (1445, 12, 30), 12, (1446, 12, 29))
        self.told(3, (1445, 12, 30), 24, (1447, 12, 30))

    def test_coptic_and_ethiopian(self):
        for kind in (4, 5):
            leap = oracle.year_of_length(kind, 366, 1730)
            self.told(kind, (leap, 12, 30), 1, (leap, 13, 6))
            self.told(kind, (leap + 1, 12, 30), 1, (leap + 1, 13, 5))
            self.told(kind, (leap + 1, 1, 30), -1, (leap, 13, 6))
            self.told(kind, (leap, 13, 6), 13, (leap + 1, 13, 5))
            self.told(kind, (leap, 13, 6), 52, (leap + 4, 13, 6))
            self.told(kind, (leap, 13, 6), 1, (leap + 1, 1, 6))
            self.told(kind, (leap, 12, 5), 1, (leap, 13, 5))

    def test_persian(self):
        self.told(6, (1399, 6, 31), 1, (1399, 7, 30))
        self.told(6, (1399, 12, 30), 12, (1400, 12, 29))
        self.told(6, (1400, 11, 30), 1, (1400, 12, 29))
        self.told(6, (1399, 11, 30), 1, (1399, 12, 30))

    def test_each_last_day_and_the_one_before(self):
        for kind in oracle.KINDS:
            for length in oracle.MONTHS[kind]:
                y = oracle.year_of_length(kind, length, 1400)
                for m, days in enumerate(oracle.months(kind, y), start=1):
                    for n in (1, -1, 12, 13, -13):
                        self.check(kind, (y, m, days), n)
                        self.check(kind, (y, m, days - 1), n)


class Ends(AddCase):
    def test_most_months_from_the_lowest_and_highest_year(self):
        for kind in oracle.KINDS:
            for y in (oracle.LOWEST_YEAR, oracle.HIGHEST_YEAR, 0, 2000):
                for start in ((y, 1, 1), last_date(kind, y)):
                    for n in (MOST, -MOST):
                        self.check(kind, start, n)

    def test_years_that_come_out_may_be_beyond(self):
        self.told(0, (1900000000, 12, 31), MOST, (1900010000, 12, 31))
        self.told(0, (-1900000000, 1, 31), -MOST, (-1900010000, 1, 31))
        self.told(4, (1900000000, 13, 1), 1, (1900000001, 1, 1))
        self.told(2, (-1900000000, 1, 1), -1, (-1900000001, len(oracle.months(2, -1900000001)), 1))
        self.told(7, (1900000000, 1, 1), 53, oracle.add_months(7, (1900000000, 1, 1), 53))

    def test_too_many_months(self):
        for kind in oracle.KINDS:
            for y in (oracle.LOWEST_YEAR, 0, 2000, oracle.HIGHEST_YEAR):
                for n in (MOST + 1, -MOST - 1, oracle.LOWEST_W, oracle.HIGHEST_W):
                    self.assertEqual(add(kind, y, 1, 1, n), [-1], (kind, y, n))


class Refusals(AddCase):
    def test_no_such_kind(self):
        for kind in (-1, 8, oracle.LOWEST_W, oracle.HIGHEST_W):
            for n in (0, 1):
                self.assertEqual(add(kind, 5, 1, 1, n), [-1], (kind, n))

    def test_years_beyond(self):
        for kind in oracle.KINDS:
            for y in (oracle.LOWEST_YEAR - 1, oracle.HIGHEST_YEAR + 1, oracle.LOWEST_W, oracle.HIGHEST_W):
                for n in (0, 100, -100):
                    self.assertEqual(add(kind, y, 1, 1, n), [-1], (kind, y, n))

    def test_dates_that_there_are_not(self):
        for kind in oracle.KINDS:
            for length in oracle.MONTHS[kind]:
                y = oracle.year_of_length(kind, length, 1990)
                months = oracle.months(kind, y)
                for m in (0, -1, len(months) + 1, oracle.LOWEST_W, oracle.HIGHEST_W):
                    self.assertEqual(add(kind, y, m, 1, 1), [-1], (kind, y, m))
                for m, days in enumerate(months, start=1):
                    for d in (0, -1, days + 1, oracle.LOWEST_W, oracle.HIGHEST_W):
                        self.assertEqual(add(kind, y, m, d, 1), [-1], (kind, y, m, d))
                        self.assertEqual(add(kind, y, m, d, 0), [-1], (kind, y, m, d))

    def test_all_at_the_ends(self):
        for kind in (oracle.LOWEST_W, 0, 7, oracle.HIGHEST_W):
            for y in (oracle.LOWEST_W, oracle.HIGHEST_W):
                for m in (oracle.LOWEST_W, oracle.HIGHEST_W):
                    for d in (oracle.LOWEST_W, oracle.HIGHEST_W):
                        for n in (oracle.LOWEST_W, oracle.HIGHEST_W):
                            self.assertEqual(add(kind, y, m, d, n), [-1], (kind, y, m, d, n))


if __name__ == "__main__":
    unittest.main()
