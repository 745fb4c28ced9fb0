"""Point 3: the day of the week, Monday 1 to Sunday 7."""

import datetime
import unittest

import oracle
from eightcalendars.days import date, day, weekday


class Weekday(unittest.TestCase):
    def test_a_week_behind_day_0(self):
        self.assertEqual([weekday(number) for number in range(1, 8)], [[1], [2], [3], [4], [5], [6], [7]])

    def test_a_week_ahead_of_day_0(self):
        self.assertEqual([weekday(number) for number in range(-6, 1)], [[1], [2], [3], [4], [5], [6], [7]])

    def test_over_day_0(self):
        self.assertEqual([weekday(number) for number in range(-3, 4)], [[4], [5], [6], [7], [1], [2], [3]])

    def test_known(self):
        self.assertEqual(weekday(day(0, 1970, 1, 1)[1]), [4])
        self.assertEqual(weekday(day(0, 2000, 1, 1)[1]), [6])
        self.assertEqual(weekday(day(1, 1582, 10, 4)[1]), [4])
        self.assertEqual(weekday(day(0, 1582, 10, 15)[1]), [5])

    def test_by_python(self):
        for number in range(1, datetime.date.max.toordinal(), 997):
            self.assertEqual(weekday(number), [datetime.date.fromordinal(number).isoweekday()], number)

    def test_by_the_weeks(self):
        for number in range(-1000000, 1000000, 1009):
            self.assertEqual(weekday(number), [date(7, number)[3]], number)

    def test_lowest_and_highest_day(self):
        self.assertEqual(weekday(oracle.LOWEST_DAY), [7])
        self.assertEqual(weekday(oracle.LOWEST_DAY + 1), [1])
        self.assertEqual(weekday(oracle.HIGHEST_DAY), [7])
        self.assertEqual(weekday(oracle.HIGHEST_DAY - 1), [6])

    def test_days_beyond(self):
        for number in (oracle.LOWEST_DAY - 1, oracle.HIGHEST_DAY + 1, oracle.LOWEST_D, oracle.HIGHEST_D):
            self.assertEqual(weekday(number), [-1], number)


if __name__ == "__main__":
    unittest.main()
