"""Point 9: the day that a text tells, and the texts that tell none."""

import random
import unittest

import oracle
from eightcalendars.days import read, tell

FORMS = ("2024-05-06", "2024-127", "2024-W19-1", "+012024-05-06", "-002024-127", "+1234567890-W19-1")


def as_bytes(text):
    return list(text.encode("ascii"))


class ReadCase(unittest.TestCase):
    def told(self, text, kind, y, m, d):
        self.assertEqual(read(as_bytes(text)), [0, oracle.day(kind, y, m, d)], text)

    def none(self, *texts):
        for text in texts:
            self.assertEqual(read(as_bytes(text)), [-1], text)


class WhatTellTells(ReadCase):
    def check(self, number):
        for style in (0, 1, 2):
            self.assertEqual(read(tell(style, number)[1:]), [0, number], (style, number))

    def test_near_and_far(self):
        for reach in (1000, 1000000, 10000000, 1000000000, oracle.HIGHEST_DAY):
            for many in range(300):
                self.check(many * 15485863 * 32452843 % (2 * reach + 1) - reach)

    def test_turns_of_years(self):
        for y in (-1900000000, -1000000, -999999, -10000, -9999, -5, -4, -1, 0, 1, 2, 1900, 2000, 2004, 2005, 2009,
                  2020, 9999, 10000, 999999, 1000000, 1900000000):
            for number in range(oracle.start(0, y) - 8, oracle.start(0, y) + 9):
                self.check(number)

    def test_every_day_of_some_years(self):
        for number in range(oracle.start(0, 2019), oracle.start(0, 2025)):
            self.check(number)

    def test_lowest_and_highest_day(self):
        for number in (oracle.LOWEST_DAY, oracle.LOWEST_DAY + 1, oracle.HIGHEST_DAY - 1, oracle.HIGHEST_DAY):
            self.check(number)


class Known(ReadCase):
    def test_the_three_forms(self):
        self.assertEqual(read(as_bytes("1970-01-01")), [0, 719163])
        self.assertEqual(read(as_bytes("1970-001")), [0, 719163])
        self.assertEqual(read(as_bytes("1970-W01-4")), [0, 719163])
        self.assertEqual(read(as_bytes("0001-W01-1")), [0, 1])
        self.assertEqual(read(as_bytes("0000-366")), [0, 0])
        self.assertEqual(read(as_bytes("-000001-12-31")), [0, -366])

    def test_the_week_has_a_year_of_its_own(self):
        self.told("2009-W01-1", 0, 2008, 12, 29)
        self.told("2009-W53-7", 0, 2010, 1, 3)
        self.told("9999-W52-6", 0, 10000, 1, 1)
        self.told("-000001-W52-6", 0, 0, 1, 1)


class Years(ReadCase):
    def test_without_a_sign(self):
        self.told("0000-01-01", 0, 0, 1, 1)
        self.told("9999-12-31", 0, 9999, 12, 31)
        self.none("999-12-31", "12345-12-31", "010000-12-31", "123456-12-31", "1234567-12-31", "00-01-01", "0-001")

    def test_how_many_digits_behind_a_sign(self):
        for sign, y in (("+", 1), ("-", -1)):
            self.told(sign + "123456-02-03", 0, y * 123456, 2, 3)
            self.told(sign + "1234567-02-03", 0, y * 1234567, 2, 3)
            self.told(sign + "12345678-02-03", 0, y * 12345678, 2, 3)
            self.told(sign + "123456789-02-03", 0, y * 123456789, 2, 3)
            self.told(sign + "1234567890-02-03", 0, y * 1234567890, 2, 3)
            for behind in ("-02-03", "-034", "-W05-3"):
                self.none(sign + behind, sign + "1" + behind, sign + "1234" + behind, sign + "12345" + behind,
                          sign + "12345678901" + behind, sign + "123456789012" + behind)
                # Eleven digits, whose year is small enough for the day to be within the range.
                self.none(sign + "00000012345" + behind, sign + "01234567890" + behind)

    def test_a_0_in_front(self):
        for sign, y in (("+", 1), ("-", -1)):
            self.told(sign + "012345-034", 0, y * 12345, 2, 3)
            self.none(sign + "0123456-034", sign + "0012345-034", sign + "01234567-034", sign + "0123456789-034",
                      sign + "0000000-034")

    def test_years_of_four_digits_have_no_sign(self):
        for behind in ("-02-03", "-034", "-W05-3"):
            self.none("+000000" + behind, "-000000" + behind, "+000001" + behind, "+002024" + behind,
                      "+009999" + behind, "+2024" + behind, "-2024" + behind)
        self.told("-000001-02-03", 0, -1, 2, 3)
        self.told("-009999-02-03", 0, -9999, 2, 3)
        self.told("-010000-02-03", 0, -10000, 2, 3)
        self.told("+010000-02-03", 0, 10000, 2, 3)
        self.told("-009999-W05-3", 7, -9999, 5, 3)
        self.told("+010000-W05-3", 7, 10000, 5, 3)

    def test_years_beyond_those_that_may_be_handed_over(self):
        self.told("+1900000001-01-01", 0, 1900000001, 1, 1)
        self.told("-1900000001-001", 0, -1900000001, 1, 1)
        self.told("+1910000000-W01-1", 7, 1910000000, 1, 1)

    def test_days_beyond_the_range(self):
        self.assertEqual(read(as_bytes("+1916534905-11-22")), [0, oracle.HIGHEST_DAY])
        self.assertEqual(read(as_bytes("+1916534905-326")), [0, oracle.HIGHEST_DAY])
        self.assertEqual(read(as_bytes("+1916534905-W47-7")), [0, oracle.HIGHEST_DAY])
        self.none("+1916534905-11-23", "+1916534905-327", "+1916534905-W48-1")
        self.assertEqual(read(as_bytes("-1916534904-02-09")), [0, oracle.LOWEST_DAY])
        self.assertEqual(read(as_bytes("-1916534904-040")), [0, oracle.LOWEST_DAY])
        self.assertEqual(read(as_bytes("-1916534904-W06-7")), [0, oracle.LOWEST_DAY])
        self.none("-1916534904-02-08", "-1916534904-039", "-1916534904-W06-6")
        for sign in "+-":
            self.none(sign + "2000000000-01-01", sign + "2147483648-001", sign + "9999999999-12-31",
                      sign + "9999999999-365", sign + "9999999999-W52-1")


class NotOneOfTheForms(ReadCase):
    def test_too_little(self):
        self.none("", "2", "2024", "-", "+", "W", "2024-", "2024-W", "-01-01", "-001", "-W01-1", "+012024", "-012024")
        for text in FORMS:
            self.none(*[text[:end] for end in range(len(text))])

    def test_a_byte_left_out(self):
        for text in FORMS:
            for place in range(len(text)):
                shorter = as_bytes(text[:place] + text[place + 1:])
                self.assertEqual(read(shorter), oracle.read(shorter), shorter)
        for text in FORMS[:3]:
            for place in range(len(text)):
                self.none(text[:place] + text[place + 1:])

    def test_a_byte_more(self):
        for text in FORMS:
            whole = as_bytes(text)
            for byte in (0, 9, 10, 13, 32, 43, 45, 48, 57, 84, 87, 90, 128, 255):
                self.assertEqual(read(whole + [byte]), [-1], (text, byte))
                for place in range(len(whole)):
                    longer = whole[:place] + [byte] + whole[place:]
                    self.assertEqual(read(longer), oracle.read(longer), longer)
        for text in FORMS:
            self.none(text + "\n", text + " ", " " + text, "\n" + text, text + text)

    def test_another_byte_at_each_place(self):
        for text in FORMS:
            whole = as_bytes(text)
            for place in range(len(whole)):
                for byte in range(256):
                    other = whole[:place] + [byte] + whole[place + 1:]
                    self.assertEqual(read(other), oracle.read(other), other)

    def test_no_digit_at_each_place(self):
        for text in FORMS:
            whole = as_bytes(text)
            for place, byte in enumerate(whole):
                for other in (0, 32, 47, 58, 65, 97, 178, 185, 255):
                    self.assertEqual(read(whole[:place] + [other] + whole[place + 1:]), [-1], (text, place, other))

    def test_signs_and_letters(self):
        self.none("2024-w19-1", "2024W19-1", "2024-W191", "2024W191", "2024-W19", "2024-19-1", "2024-W9-1")
        self.none("20240506", "2024127", "2024/05/06", "2024-5-6", "2024-05-6", "2024-5-06", "2024.05.06", "2024-0506")
        self.none("2024-W19-01", "2024-0127", "2024-05-006", "2024-005-06", "2024+05-06", "2024-05+06", "2024+127")
        self.none("*012024-05-06", " 012024-05-06", ",012024-05-06", "++12024-05-06", "--12024-05-06", "+-12024-127")
        self.none("2024-+5-06", "2024-05-+6", "2024--5-06", "2024-05--6", "2024-+27", "2024--27", "2024-W+9-1")
        self.none("+ 12024-127", "+1_2024-127", "2024-1_7", "2024-05-06T", "2024-05-06Z", "2024-05-06T00:00")

    def test_only_one_byte_over_and_over(self):
        for byte in (0, 43, 45, 48, 57, 87, 255):
            for many in (1, 4, 8, 10, 11, 13, 17, 1000, 65536):
                self.assertEqual(read([byte] * many), [-1], (byte, many))

    def test_long_texts(self):
        for text in FORMS:
            whole = as_bytes(text)
            for filling in (0, 32, 48, 49, 57, 255):
                more = [filling] * (65536 - len(whole))
                self.assertEqual(read(more + whole), [-1], (text, filling))
                self.assertEqual(read(whole + more), [-1], (text, filling))
                self.assertEqual(read(whole[:1] + more + whole[1:]), [-1], (text, filling))
        self.assertEqual(read([49] * 65536), [-1])

    def test_texts_at_random(self):
        chance = random.Random(8)
        for many in range(20000):
            text = as_bytes(chance.choice(FORMS))
            for change in range(chance.randrange(1, 4)):
                place = chance.randrange(len(text) + 1)
                text[place:place + chance.randrange(2)] = [chance.choice(b"0123456789+-W")] * chance.randrange(2)
            self.assertEqual(read(text), oracle.read(text), text)


class NoSuchDate(ReadCase):
    def test_months_and_days(self):
        self.none("2024-00-01", "2024-13-01", "2024-99-01", "2024-01-00", "2024-01-32", "2024-01-99", "2024-00-00")
        self.none("2024-04-31", "2024-02-30", "2023-02-29", "1900-02-29", "0001-02-29", "-000001-02-29")
        self.told("2024-02-29", 0, 2024, 2, 29)
        self.told("0000-02-29", 0, 0, 2, 29)
        self.told("-000004-02-29", 0, -4, 2, 29)
        self.told("2024-01-31", 0, 2024, 1, 31)
        self.told("2024-12-31", 0, 2024, 12, 31)

    def test_days_of_the_year(self):
        self.none("2023-000", "2024-000", "2023-366", "2024-367", "2023-367", "2023-999", "1900-366", "-000001-366")
        self.told("2023-001", 0, 2023, 1, 1)
        self.told("2023-365", 0, 2023, 12, 31)
        self.told("2024-366", 0, 2024, 12, 31)
        self.told("0000-366", 0, 0, 12, 31)

    def test_weeks(self):
        self.none("2020-W00-1", "2021-W00-1", "2021-W53-1", "2020-W54-1", "2021-W54-1", "2020-W99-1")
        self.none("2020-W01-0", "2020-W01-8", "2020-W01-9", "2020-W53-0", "2020-W53-8", "2021-W52-8")
        self.told("2020-W01-1", 7, 2020, 1, 1)
        self.told("2020-W53-7", 7, 2020, 53, 7)
        self.told("2021-W52-7", 7, 2021, 52, 7)

    def test_every_month_day_and_week_of_two_digits(self):
        for y in ("2020", "2021", "0000", "-000001", "+010000"):
            for m in range(100):
                for behind in [f"-{m:02}-{d:02}" for d in (0, 1, 28, 29, 30, 31, 32)]:
                    self.assertEqual(read(as_bytes(y + behind)), oracle.read(as_bytes(y + behind)), y + behind)
                for behind in [f"-W{m:02}-{d}" for d in range(10)]:
                    self.assertEqual(read(as_bytes(y + behind)), oracle.read(as_bytes(y + behind)), y + behind)

    def test_every_day_of_the_year_of_three_digits(self):
        for y in ("2020", "2021", "0000", "-000001", "+010000", "+1234567890"):
            for d in range(1000):
                text = as_bytes(f"{y}-{d:03}")
                self.assertEqual(read(text), oracle.read(text), text)


class HandedIn(ReadCase):
    def test_the_text_is_as_it_was(self):
        for text in FORMS + ("", "2024", "2024-02-30", "9" * 65536):
            handed = as_bytes(text)
            read(handed)
            self.assertEqual(handed, as_bytes(text))

    def test_what_is_done_to_it_later_changes_nothing(self):
        handed = as_bytes("2024-05-06")
        answered = read(handed)
        handed.clear()
        self.assertEqual(answered, [0, oracle.day(0, 2024, 5, 6)])


if __name__ == "__main__":
    unittest.main()
