"""The paragraph ahead of point 1: when -1 alone is answered, and just when it isn't."""

import unittest

import oracle
from eightcalendars.days import date, day

# For each kind, in order: the dates of the lowest day and of the highest.
END_DATES = [
    ((-1916534904, 2, 9), (1916534905, 11, 22)),
    ((-1916495550, 1, 5), (1916495551, 12, 31)),
    ((-1916508465, 13, 26), (1916515986, 8, 9)),
    ((-1975355734, 10, 13), (1975354453, 12, 21)),
    ((-1916495834, 5, 10), (1916495268, 5, 4)),
    ((-1916495558, 5, 10), (1916495544, 5, 4)),
    ((-1916537107, 4, 1), (1916535866, 4, 19)),
    ((-1916534904, 6, 7), (1916534905, 47, 7)),
]

# For each kind, in order: the days on which the lowest year and the highest begin.
END_YEARS = [
    (-693960750365, 693960749635),
    (-693975000367, 693974999633),
    (-693970336002, 693967588381),
    (-673296440006, 673296893327),
    (-693974896760, 693975103240),
    (-693974997569, 693975002431),
    (-693959950775, 693960403835),
    (-693960750363, 693960749637),
]


class Kinds(unittest.TestCase):
    def test_first_and_last_kind(self):
        self.assertEqual(day(0, 2024, 12, 30), [0, 739250])
        self.assertEqual(day(7, 2025, 1, 1), [0, 739250])
        self.assertEqual(date(0, 739250), [0, 2024, 12, 30])
        self.assertEqual(date(7, 739250), [0, 2025, 1, 1])

    def test_no_such_kind(self):
        for kind in (-1, 8, -8, 9, 100, oracle.LOWEST_W, oracle.HIGHEST_W):
            self.assertEqual(day(kind, 1, 1, 1), [-1], kind)
            self.assertEqual(date(kind, 1), [-1], kind)
            self.assertEqual(date(kind, 0), [-1], kind)


class Years(unittest.TestCase):
    def test_lowest_and_highest_year(self):
        for kind in oracle.KINDS:
            lowest, highest = END_YEARS[kind]
            self.assertEqual(day(kind, oracle.LOWEST_YEAR, 1, 1), [0, lowest], kind)
            self.assertEqual(day(kind, oracle.HIGHEST_YEAR, 1, 1), [0, highest], kind)

    def test_last_day_of_the_highest_year(self):
        for kind in oracle.KINDS:
            months = oracle.months(kind, oracle.HIGHEST_YEAR)
            behind = oracle.start(kind, oracle.HIGHEST_YEAR + 1)
            self.assertEqual(day(kind, oracle.HIGHEST_YEAR, len(months), months[-1]), [0, behind - 1], kind)

    def test_years_beyond(self):
        for kind in oracle.KINDS:
            for y in (oracle.LOWEST_YEAR - 1, oracle.HIGHEST_YEAR + 1, oracle.LOWEST_W, oracle.HIGHEST_W):
                self.assertEqual(day(kind, y, 1, 1), [-1], (kind, y))

    def test_years_that_come_out_may_be_beyond(self):
        for kind in oracle.KINDS:
            for y in (oracle.LOWEST_YEAR - 1, oracle.HIGHEST_YEAR + 1):
                number = oracle.start(kind, y)
                self.assertEqual(date(kind, number), [0, y, 1, 1], (kind, number))


class Days(unittest.TestCase):
    def test_lowest_and_highest_day(self):
        for kind in oracle.KINDS:
            lowest, highest = END_DATES[kind]
            self.assertEqual(date(kind, oracle.LOWEST_DAY), [0, *lowest], kind)
            self.assertEqual(date(kind, oracle.HIGHEST_DAY), [0, *highest], kind)
            self.assertEqual(oracle.date(kind, oracle.LOWEST_DAY), lowest)
            self.assertEqual(oracle.date(kind, oracle.HIGHEST_DAY), highest)

    def test_the_days_next_to_them(self):
        for kind in oracle.KINDS:
            for number in (oracle.LOWEST_DAY + 1, oracle.HIGHEST_DAY - 1):
                self.assertEqual(date(kind, number), [0, *oracle.date(kind, number)], (kind, number))

    def test_days_beyond(self):
        for kind in oracle.KINDS:
            for number in (oracle.LOWEST_DAY - 1, oracle.HIGHEST_DAY + 1, oracle.LOWEST_D, oracle.HIGHEST_D):
                self.assertEqual(date(kind, number), [-1], (kind, number))

    def test_day_does_not_take_what_date_gives_there(self):
        for kind in oracle.KINDS:
            for number in (oracle.LOWEST_DAY, oracle.HIGHEST_DAY):
                self.assertEqual(day(kind, *date(kind, number)[1:]), [-1], (kind, number))


class NoSuchDate(unittest.TestCase):
    def test_no_such_month(self):
        for kind in oracle.KINDS:
            for m in (0, -1, -2, -12, -52, 54, 100, oracle.LOWEST_W, oracle.HIGHEST_W):
                self.assertEqual(day(kind, 5, m, 1), [-1], (kind, m))

    def test_no_such_day(self):
        for kind in oracle.KINDS:
            for d in (0, -1, -2, -30, 32, 100, oracle.LOWEST_W, oracle.HIGHEST_W):
                self.assertEqual(day(kind, 5, 1, d), [-1], (kind, d))

    def test_all_at_the_ends(self):
        for kind in (oracle.LOWEST_W, 0, 7, oracle.HIGHEST_W):
            for y in (oracle.LOWEST_W, oracle.HIGHEST_W):
                for m in (oracle.LOWEST_W, oracle.HIGHEST_W):
                    for d in (oracle.LOWEST_W, oracle.HIGHEST_W):
                        self.assertEqual(day(kind, y, m, d), [-1], (kind, y, m, d))


if __name__ == "__main__":
    unittest.main()
