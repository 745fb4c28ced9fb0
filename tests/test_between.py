"""Point 6: how many months from one day to another, and how many days are left."""

import unittest

import oracle
from eightcalendars.days import add, between, date, day

MOST = 1000000


class BetweenCase(unittest.TestCase):
    def check(self, kind, a, b):
        """By the document's words: so many months are not behind b, and one more is."""
        answered, months, left = between(kind, a, b)
        self.assertEqual(answered, 0)
        self.assertGreaterEqual(months, 0, (kind, a, b))
        begin = oracle.date(kind, a)
        reached = oracle.day(kind, *oracle.add_months(kind, begin, months))
        beyond = oracle.day(kind, *oracle.add_months(kind, begin, months + 1))
        self.assertEqual(reached + left, b, (kind, a, b))
        self.assertLessEqual(reached, b, (kind, a, b))
        self.assertGreater(beyond, b, (kind, a, b))

    def told(self, kind, start, end, months, left):
        a, b = day(kind, *start)[1], day(kind, *end)[1]
        self.assertEqual(between(kind, a, b), [0, months, left], (kind, start, end))


class EachKind(BetweenCase):
    def test_the_same_day(self):
        for kind in oracle.KINDS:
            for number in (-700000000000, -1373427, -1, 0, 1, 738886, 700000000000):
                self.assertEqual(between(kind, number, number), [0, 0, 0], (kind, number))

    def test_about_one_month_more(self):
        for kind in oracle.KINDS:
            for a in list(range(-30000, 760000, 2801)) + list(range(-420, 420)):
                begin = oracle.date(kind, a)
                b = oracle.day(kind, *oracle.add_months(kind, begin, 1))
                self.assertEqual(between(kind, a, b - 1), [0, 0, b - 1 - a], (kind, a, b))
                self.assertEqual(between(kind, a, b), [0, 1, 0], (kind, a, b))
                self.assertEqual(between(kind, a, b + 1), [0, 1, 1], (kind, a, b))

    def test_about_each_of_some_months_more(self):
        for kind in oracle.KINDS:
            for a in (-400, 0, 738000, 738155, 738186):
                begin = oracle.date(kind, a)
                for n in range(1, 120):
                    b = oracle.day(kind, *oracle.add_months(kind, begin, n))
                    before = oracle.day(kind, *oracle.add_months(kind, begin, n - 1))
                    self.assertEqual(between(kind, a, b - 1), [0, n - 1, b - 1 - before], (kind, a, n))
                    self.assertEqual(between(kind, a, b), [0, n, 0], (kind, a, n))
                    self.assertEqual(between(kind, a, b + 1), [0, n, 1], (kind, a, n))

    def test_near_and_far(self):
        for kind in oracle.KINDS:
            for many in range(150):
                a = many * 15485863 * 32452843 % 2000000001 - 1000000000
                for span in (5, 29, 30, 31, 365, 366, 384, many * 7919 % 20000):
                    self.check(kind, a, a + span)

    def test_on_both_sides_of_day_0(self):
        for kind in oracle.KINDS:
            for a in (-1, -29, -365, -1000, -400000):
                for b in (0, 1, 28, 400, 500000):
                    self.check(kind, a, b)

    def test_on_both_sides_of_year_0(self):
        for kind in oracle.KINDS:
            for back in (1, 29, 31, 400, 9999):
                a = oracle.start(kind, 0) - back
                for span in (0, 1, 28, 31, 365, 799, 20000):
                    self.check(kind, a, a + span)


class Known(BetweenCase):
    def test_gregorian(self):
        self.told(0, (2024, 1, 1), (2024, 12, 31), 11, 30)
        self.told(0, (2000, 2, 29), (2001, 2, 28), 12, 0)
        self.told(0, (2000, 2, 29), (2001, 2, 27), 11, 29)
        self.told(0, (1969, 7, 20), (2024, 7, 19), 659, 29)

    def test_hebrew(self):
        self.told(2, (5783, 12, 1), (5784, 13, 1), 13, 0)
        self.told(2, (5784, 1, 1), (5785, 1, 1), 13, 0)
        self.told(2, (5785, 1, 1), (5786, 1, 1), 12, 0)

    def test_coptic_and_ethiopian(self):
        self.told(4, (1740, 1, 30), (1741, 1, 29), 12, 29)
        self.told(5, (2016, 1, 30), (2017, 1, 30), 13, 0)

    def test_weeks(self):
        self.told(7, (2020, 1, 4), (2021, 1, 3), 52, 6)
        self.told(7, (2020, 1, 4), (2021, 1, 4), 53, 0)


class DayCut(BetweenCase):
    def test_january_31_to_the_end_of_february(self):
        for kind in (0, 1):
            self.told(kind, (2023, 1, 31), (2023, 2, 27), 0, 27)
            self.told(kind, (2023, 1, 31), (2023, 2, 28), 1, 0)
            self.told(kind, (2023, 1, 31), (2023, 3, 1), 1, 1)
            self.told(kind, (2024, 1, 31), (2024, 2, 28), 0, 28)
            self.told(kind, (2024, 1, 31), (2024, 2, 29), 1, 0)
            self.told(kind, (2023, 1, 29), (2023, 2, 28), 1, 0)

    def test_the_day_is_not_cut_for_good(self):
        for kind in (0, 1):
            self.told(kind, (2023, 1, 31), (2023, 3, 30), 1, 30)
            self.told(kind, (2023, 1, 31), (2023, 3, 31), 2, 0)

    def test_hebrew(self):
        self.told(2, (5784, 1, 30), (5784, 2, 28), 0, 28)
        self.told(2, (5784, 1, 30), (5784, 2, 29), 1, 0)
        self.told(2, (5784, 1, 30), (5784, 3, 1), 1, 1)

    def test_islamic(self):
        self.told(3, (1446, 11, 30), (1446, 12, 29), 1, 0)
        self.told(3, (1445, 11, 30), (1445, 12, 29), 0, 29)
        self.told(3, (1445, 11, 30), (1445, 12, 30), 1, 0)

    def test_coptic_and_ethiopian(self):
        for kind in (4, 5):
            leap = oracle.year_of_length(kind, 366, 1730)
            self.told(kind, (leap, 12, 30), (leap, 13, 5), 0, 5)
            self.told(kind, (leap, 12, 30), (leap, 13, 6), 1, 0)
            self.told(kind, (leap + 1, 12, 30), (leap + 1, 13, 5), 1, 0)
            self.told(kind, (leap + 1, 12, 30), (leap + 2, 1, 29), 1, 29)
            self.told(kind, (leap + 1, 12, 30), (leap + 2, 1, 30), 2, 0)

    def test_persian(self):
        self.told(6, (1400, 6, 31), (1400, 7, 30), 1, 0)
        self.told(6, (1400, 6, 31), (1400, 12, 29), 6, 0)
        self.told(6, (1399, 6, 31), (1399, 12, 29), 5, 29)


class Ends(BetweenCase):
    def test_the_most_days(self):
        for kind in oracle.KINDS:
            for a in (-700000000000, -500000, 0, 700000, 700000000000 - MOST):
                self.check(kind, a, a + MOST)
                self.check(kind, a, a + MOST - 1)

    def test_the_most_months(self):
        # More than add takes at once.
        self.assertEqual(between(7, 1, 1 + MOST), [0, 142857, 1])
        self.assertEqual(between(7, 1, MOST), [0, 142857, 0])
        self.assertEqual(add(7, 1, 1, 1, 142857), [-1])

    def test_a_day_too_many(self):
        for kind in oracle.KINDS:
            for a in (-700000000000, -500000, 0, 699999000000 - 1):
                self.assertEqual(between(kind, a, a + MOST + 1), [-1], (kind, a))

    def test_a_behind_b(self):
        for kind in oracle.KINDS:
            for a in (-699999999999, -1, 0, 1, 738886, 700000000000):
                self.assertEqual(between(kind, a, a - 1), [-1], (kind, a))
                self.assertEqual(between(kind, a, a - 30), [-1], (kind, a))

    def test_lowest_and_highest_day(self):
        for kind in oracle.KINDS:
            for span in (0, 1, 27, 31, 400, MOST):
                self.check(kind, oracle.LOWEST_DAY, oracle.LOWEST_DAY + span)
                self.check(kind, oracle.HIGHEST_DAY - span, oracle.HIGHEST_DAY)

    def test_days_beyond(self):
        for kind in oracle.KINDS:
            self.assertEqual(between(kind, oracle.LOWEST_DAY - 1, oracle.LOWEST_DAY), [-1], kind)
            self.assertEqual(between(kind, oracle.HIGHEST_DAY, oracle.HIGHEST_DAY + 1), [-1], kind)
            for beyond in (oracle.LOWEST_DAY - 1, oracle.HIGHEST_DAY + 1, oracle.LOWEST_D, oracle.HIGHEST_D):
                self.assertEqual(between(kind, beyond, beyond), [-1], (kind, beyond))
            self.assertEqual(between(kind, oracle.LOWEST_DAY, oracle.HIGHEST_DAY), [-1], kind)
            self.assertEqual(between(kind, oracle.LOWEST_D, oracle.HIGHEST_D), [-1], kind)
            self.assertEqual(between(kind, oracle.HIGHEST_D, oracle.LOWEST_D), [-1], kind)
            self.assertEqual(between(kind, 0, oracle.HIGHEST_D), [-1], kind)
            self.assertEqual(between(kind, oracle.LOWEST_D, 0), [-1], kind)

    def test_no_such_kind(self):
        for kind in (-1, 8, oracle.LOWEST_W, oracle.HIGHEST_W):
            self.assertEqual(between(kind, 1, 1), [-1], kind)
            self.assertEqual(between(kind, 1, 100), [-1], kind)

    def test_add_leads_there(self):
        for kind in oracle.KINDS:
            for a in range(700000, 740000, 997):
                b = a + a % 3001
                answered, months, left = between(kind, a, b)
                reached = add(kind, *date(kind, a)[1:], months)
                self.assertEqual(day(kind, *reached[1:])[1] + left, b, (kind, a, b))


if __name__ == "__main__":
    unittest.main()
