"""Point 3: a date's date in another calendar, from each kind to each."""

import unittest

import oracle
from eightcalendars.days import convert, date, day

# One day's date in each of the eight calendars, in order; three days.
KNOWN = [
    [(-586, 7, 24), (-586, 7, 30), (3174, 11, 10), (-1245, 12, 9),
     (-870, 12, 6), (-594, 12, 6), (-1207, 5, 1), (-586, 29, 7)],
    [(1945, 11, 12), (1945, 10, 30), (5706, 3, 7), (1364, 12, 6),
     (1662, 3, 3), (1938, 3, 3), (1324, 8, 21), (1945, 46, 1)],
    [(2094, 7, 18), (2094, 7, 5), (5854, 11, 5), (1518, 3, 5),
     (1810, 11, 11), (2086, 11, 11), (1473, 4, 28), (2094, 28, 7)],
]

# For each kind, in order: the dates of the first day of the Gregorian year -1900000000 and of the
# last of 1900000000.
FAR_DATES = [
    ((-1900000000, 1, 1), (1900000000, 12, 31)),
    ((-1899960986, 5, 19), (1899960986, 8, 19)),
    ((-1899973756, 4, 7), (1899981277, 5, 20)),
    ((-1958313359, 10, 27), (1958312077, 11, 26)),
    ((-1899961270, 9, 24), (1899960702, 12, 26)),
    ((-1899960994, 9, 24), (1899960978, 12, 26)),
    ((-1900002190, 10, 15), (1900000947, 10, 5)),
    ((-1900000001, 52, 6), (1900000000, 52, 7)),
]


def in_range(y):
    return oracle.LOWEST_YEAR <= y <= oracle.HIGHEST_YEAR


class ConvertCase(unittest.TestCase):
    def check(self, kind, found):
        """To each kind, and back again where the year may be handed over."""
        number = oracle.day(kind, *found)
        for to in oracle.KINDS:
            expected = oracle.date(to, number)
            self.assertEqual(convert(kind, *found, to), [0, *expected], (kind, found, to))
            if in_range(expected[0]):
                self.assertEqual(convert(to, *expected, kind), [0, *found], (to, expected, kind))


class EachToEach(ConvertCase):
    def test_known(self):
        for dates in KNOWN:
            for kind, found in enumerate(dates):
                for to, expected in enumerate(dates):
                    self.assertEqual(convert(kind, *found, to), [0, *expected], (kind, found, to))

    def test_there_and_back(self):
        for kind in oracle.KINDS:
            for number in range(-1500000, 1500000, 30011):
                self.check(kind, oracle.date(kind, number))

    def test_to_itself(self):
        for kind in oracle.KINDS:
            for number in range(-700000, 900000, 9973):
                found = oracle.date(kind, number)
                self.assertEqual(convert(kind, *found, kind), [0, *found], (kind, found))

    def test_as_day_and_date_have_it(self):
        for kind in oracle.KINDS:
            for to in oracle.KINDS:
                self.assertEqual(convert(kind, 5, 1, 7, to), date(to, day(kind, 5, 1, 7)[1]), (kind, to))

    def test_first_and_last_day_of_years_of_each_length(self):
        for kind in oracle.KINDS:
            for length in oracle.MONTHS[kind]:
                for from_year in (-5000, -20, 0, 1990):
                    y = oracle.year_of_length(kind, length, from_year)
                    months = oracle.months(kind, y)
                    self.check(kind, (y, 1, 1))
                    self.check(kind, (y, len(months), months[-1]))

    def test_year_0_and_years_below(self):
        for kind in oracle.KINDS:
            for y in (-400, -2, -1, 0, 1):
                for found in ((y, 1, 1), (y, 2, 5), (y, 12, 4)):
                    self.check(kind, found)


class Ends(ConvertCase):
    def test_lowest_and_highest_year(self):
        for kind in oracle.KINDS:
            for y in (oracle.LOWEST_YEAR, oracle.HIGHEST_YEAR):
                months = oracle.months(kind, y)
                self.check(kind, (y, 1, 1))
                self.check(kind, (y, 6, 3))
                self.check(kind, (y, len(months), months[-1]))

    def test_years_that_come_out_may_be_beyond(self):
        for to, (lowest, highest) in enumerate(FAR_DATES):
            self.assertEqual(convert(0, *FAR_DATES[0][0], to), [0, *lowest], to)
            self.assertEqual(convert(0, *FAR_DATES[0][1], to), [0, *highest], to)
        # What has come out may not be handed over.
        self.assertEqual(convert(3, *FAR_DATES[3][0], 0), [-1])
        self.assertEqual(convert(3, *FAR_DATES[3][1], 0), [-1])

    def test_years_beyond(self):
        for kind in oracle.KINDS:
            for to in oracle.KINDS:
                for y in (oracle.LOWEST_YEAR - 1, oracle.HIGHEST_YEAR + 1, oracle.LOWEST_W, oracle.HIGHEST_W):
                    self.assertEqual(convert(kind, y, 1, 1, to), [-1], (kind, y, to))


class Refusals(unittest.TestCase):
    def test_kinds(self):
        for kind in (-1, 8, 100, oracle.LOWEST_W, oracle.HIGHEST_W):
            for other in (0, 3, 7):
                self.assertEqual(convert(kind, 5, 1, 1, other), [-1], (kind, other))
                self.assertEqual(convert(other, 5, 1, 1, kind), [-1], (other, kind))
            self.assertEqual(convert(kind, 5, 1, 1, kind), [-1], kind)

    def test_first_and_last_kind(self):
        self.assertEqual(convert(0, 2024, 12, 30, 7), [0, 2025, 1, 1])
        self.assertEqual(convert(7, 2025, 1, 1, 0), [0, 2024, 12, 30])

    def test_dates_that_there_are_not(self):
        for kind in oracle.KINDS:
            for length in oracle.MONTHS[kind]:
                y = oracle.year_of_length(kind, length, 1990)
                months = oracle.months(kind, y)
                for to in oracle.KINDS:
                    for m in (0, -1, len(months) + 1, oracle.LOWEST_W, oracle.HIGHEST_W):
                        self.assertEqual(convert(kind, y, m, 1, to), [-1], (kind, y, m, to))
                    for m, days in enumerate(months, start=1):
                        for d in (0, -1, days + 1, oracle.LOWEST_W, oracle.HIGHEST_W):
                            self.assertEqual(convert(kind, y, m, d, to), [-1], (kind, y, m, d, to))

    def test_all_at_the_ends(self):
        ends = (oracle.LOWEST_W, oracle.HIGHEST_W)
        for kind in (oracle.LOWEST_W, 0, 7, oracle.HIGHEST_W):
            for y in ends:
                for m in ends:
                    for d in ends:
                        for to in (oracle.LOWEST_W, 0, 7, oracle.HIGHEST_W):
                            self.assertEqual(convert(kind, y, m, d, to), [-1], (kind, y, m, d, to))


if __name__ == "__main__":
    unittest.main()
