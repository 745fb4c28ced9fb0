"""Point 1: the day on which a year of each kind begins, near, far and below 0."""

import unittest

import oracle
from eightcalendars.days import date, day

# Hebrew years whose new moon comes at the very part of an hour from which a rule puts the year off,
# or one part ahead of it: eighteen hours into each day of the week, late on a Tuesday, and
# late on a Monday behind a leap year.
HEBREW_EDGE_YEARS = (
    29964, 48825, -49671, 42538, -55958, 36251, -62245,
    -22701, -3840, 88369, -10127, 82082, -16414, 75795,
    245816, -252951, -114911, 193151,
    -49670, 88370, -102335,
)


class YearStarts(unittest.TestCase):
    def check(self, kind, years):
        for y in years:
            begin = oracle.start(kind, y)
            self.assertEqual(day(kind, y, 1, 1), [0, begin], (kind, y))
            self.assertEqual(date(kind, begin), [0, y, 1, 1], (kind, begin))
            behind = date(kind, begin - 1)
            last = len(oracle.months(kind, y - 1))
            self.assertEqual(behind, [0, y - 1, last, oracle.months(kind, y - 1)[-1]], (kind, begin - 1))

    def test_years_about_0(self):
        for kind in oracle.KINDS:
            self.check(kind, range(-450, 451))

    def test_a_persian_cycle(self):
        self.check(6, range(470, 3300))

    def test_many_hebrew_years(self):
        self.check(2, range(5000, 6500))

    def test_hebrew_years_at_the_edge_of_a_rule(self):
        for y in HEBREW_EDGE_YEARS:
            self.check(2, range(y - 1, y + 3))

    def test_years_of_our_time(self):
        for kind in oracle.KINDS:
            self.check(kind, range(1300, 2200))

    def test_lowest_and_highest_years(self):
        for kind in oracle.KINDS:
            self.check(kind, range(oracle.LOWEST_YEAR, oracle.LOWEST_YEAR + 100))
            self.check(kind, range(oracle.HIGHEST_YEAR - 99, oracle.HIGHEST_YEAR + 1))


if __name__ == "__main__":
    unittest.main()
