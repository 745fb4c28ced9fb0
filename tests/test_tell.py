"""Point 8: the texts of days, in three styles."""

import datetime
import unittest

import oracle
from eightcalendars.days import day, tell

# A Gregorian date, and its day's text in each style, in order.
KNOWN = [
    ((0, 1, 1), "0000-01-01", "0000-001", "-000001-W52-6"),
    ((0, 1, 3), "0000-01-03", "0000-003", "0000-W01-1"),
    ((0, 12, 31), "0000-12-31", "0000-366", "0000-W52-7"),
    ((1, 1, 1), "0001-01-01", "0001-001", "0001-W01-1"),
    ((1, 12, 31), "0001-12-31", "0001-365", "0002-W01-1"),
    ((45, 6, 7), "0045-06-07", "0045-158", "0045-W23-3"),
    ((999, 10, 10), "0999-10-10", "0999-283", "0999-W41-4"),
    ((1970, 1, 1), "1970-01-01", "1970-001", "1970-W01-4"),
    ((2000, 2, 29), "2000-02-29", "2000-060", "2000-W09-2"),
    ((2000, 12, 31), "2000-12-31", "2000-366", "2000-W52-7"),
    ((2008, 12, 29), "2008-12-29", "2008-364", "2009-W01-1"),
    ((2009, 12, 31), "2009-12-31", "2009-365", "2009-W53-4"),
    ((2010, 1, 3), "2010-01-03", "2010-003", "2009-W53-7"),
    ((2010, 1, 4), "2010-01-04", "2010-004", "2010-W01-1"),
    ((2020, 12, 31), "2020-12-31", "2020-366", "2020-W53-4"),
    ((2021, 1, 1), "2021-01-01", "2021-001", "2020-W53-5"),
    ((2021, 12, 31), "2021-12-31", "2021-365", "2021-W52-5"),
    ((9999, 12, 31), "9999-12-31", "9999-365", "9999-W52-5"),
    ((10000, 1, 1), "+010000-01-01", "+010000-001", "9999-W52-6"),
    ((10000, 1, 3), "+010000-01-03", "+010000-003", "+010000-W01-1"),
    ((-1, 12, 31), "-000001-12-31", "-000001-365", "-000001-W52-5"),
    ((-1, 1, 1), "-000001-01-01", "-000001-001", "-000002-W53-5"),
    ((-9999, 1, 1), "-009999-01-01", "-009999-001", "-009999-W01-1"),
    ((-9999, 12, 31), "-009999-12-31", "-009999-365", "-009998-W01-1"),
    ((-10000, 12, 31), "-010000-12-31", "-010000-366", "-010000-W52-7"),
    ((999999, 7, 1), "+999999-07-01", "+999999-182", "+999999-W26-4"),
    ((1000000, 7, 1), "+1000000-07-01", "+1000000-183", "+1000000-W26-6"),
    ((-1000000, 7, 1), "-1000000-07-01", "-1000000-183", "-1000000-W26-6"),
    ((1900000000, 1, 1), "+1900000000-01-01", "+1900000000-001", "+1899999999-W52-6"),
]


def told(text):
    """What tell answers if that is the text."""
    return [len(text)] + list(text.encode("ascii"))


class Known(unittest.TestCase):
    def test_in_each_style(self):
        for found, *texts in KNOWN:
            number = oracle.day(0, *found)
            for style, text in enumerate(texts):
                self.assertEqual(tell(style, number), told(text), (found, style))

    def test_lowest_and_highest_day(self):
        for style, text in enumerate(("-1916534904-02-09", "-1916534904-040", "-1916534904-W06-7")):
            self.assertEqual(tell(style, oracle.LOWEST_DAY), told(text), style)
        for style, text in enumerate(("+1916534905-11-22", "+1916534905-326", "+1916534905-W47-7")):
            self.assertEqual(tell(style, oracle.HIGHEST_DAY), told(text), style)

    def test_bytes(self):
        self.assertEqual(tell(2, 1), [10, 48, 48, 48, 49, 45, 87, 48, 49, 45, 49])
        self.assertEqual(tell(1, -366), [11, 45, 48, 48, 48, 48, 48, 49, 45, 51, 54, 53])


class Many(unittest.TestCase):
    def check(self, number, found):
        iso = found.isocalendar()
        of_year = found.timetuple().tm_yday
        self.assertEqual(tell(0, number), told(found.isoformat()), number)
        self.assertEqual(tell(1, number), told(f"{found.year:04}-{of_year:03}"), number)
        self.assertEqual(tell(2, number), told(f"{iso.year:04}-W{iso.week:02}-{iso.weekday}"), number)

    def test_by_python(self):
        for number in range(1, datetime.date.max.toordinal(), 1009):
            self.check(number, datetime.date.fromordinal(number))

    def test_turns_of_years_by_python(self):
        for y in range(1, 9999, 7):
            last = datetime.date(y, 12, 31).toordinal()
            for number in range(last - 4, last + 6):
                self.check(number, datetime.date.fromordinal(number))

    def test_how_long(self):
        for style, behind in enumerate((6, 4, 6)):
            for y, digits in ((0, 4), (9999, 4), (10000, 7), (999999, 7), (1000000, 8), (-1, 7), (-999999, 7),
                              (-1000000, 8), (123456789, 10), (1900000000, 11), (-1900000000, 11)):
                answered = tell(style, day(0, y, 6, 1)[1])
                self.assertEqual(answered[0], digits + behind, (style, y))
                self.assertEqual(len(answered), answered[0] + 1, (style, y))


class Refusals(unittest.TestCase):
    def test_styles(self):
        for style in (-1, 3, 4, oracle.LOWEST_W, oracle.HIGHEST_W):
            for number in (0, 738886):
                self.assertEqual(tell(style, number), [-1], (style, number))

    def test_days_beyond(self):
        for style in (0, 1, 2):
            for number in (oracle.LOWEST_DAY - 1, oracle.HIGHEST_DAY + 1, oracle.LOWEST_D, oracle.HIGHEST_D):
                self.assertEqual(tell(style, number), [-1], (style, number))

    def test_both_at_the_ends(self):
        for style in (oracle.LOWEST_W, oracle.HIGHEST_W):
            for number in (oracle.LOWEST_D, oracle.HIGHEST_D):
                self.assertEqual(tell(style, number), [-1], (style, number))


if __name__ == "__main__":
    unittest.main()
