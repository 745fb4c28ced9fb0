"""The eight calendars told a second time, by their leap rules and not by the document's formulas.

The tests hold the program against this. Years of seven kinds are told by one whole cycle of
lengths; a Hebrew year begins by the new moon's hour and the four rules that put it off.
"""

import re

KINDS = range(8)
LOWEST_YEAR = -1900000000
HIGHEST_YEAR = 1900000000
LOWEST_DAY = -700000000000
HIGHEST_DAY = 700000000000

# The ends of what may be handed in at all: w and d.
LOWEST_W, HIGHEST_W = -2147483648, 2147483647
LOWEST_D, HIGHEST_D = -9223372036854775808, 9223372036854775807

JANUARY_TO_DECEMBER = [31, 28, 31, 30, 31, 30, 31, 31, 30, 31, 30, 31]
JANUARY_TO_DECEMBER_LEAP = [31, 29, 31, 30, 31, 30, 31, 31, 30, 31, 30, 31]
TWELVE_AND_FIVE = [30, 30, 30, 30, 30, 30, 30, 30, 30, 30, 30, 30, 5]
TWELVE_AND_SIX = [30, 30, 30, 30, 30, 30, 30, 30, 30, 30, 30, 30, 6]

# For each kind, every length that a year of it has, with the months of such a year.
MONTHS = {
    0: {365: JANUARY_TO_DECEMBER, 366: JANUARY_TO_DECEMBER_LEAP},
    1: {365: JANUARY_TO_DECEMBER, 366: JANUARY_TO_DECEMBER_LEAP},
    2: {
        353: [30, 29, 29, 29, 30, 29, 30, 29, 30, 29, 30, 29],
        354: [30, 29, 30, 29, 30, 29, 30, 29, 30, 29, 30, 29],
        355: [30, 30, 30, 29, 30, 29, 30, 29, 30, 29, 30, 29],
        383: [30, 29, 29, 29, 30, 30, 29, 30, 29, 30, 29, 30, 29],
        384: [30, 29, 30, 29, 30, 30, 29, 30, 29, 30, 29, 30, 29],
        385: [30, 30, 30, 29, 30, 30, 29, 30, 29, 30, 29, 30, 29],
    },
    3: {
        354: [30, 29, 30, 29, 30, 29, 30, 29, 30, 29, 30, 29],
        355: [30, 29, 30, 29, 30, 29, 30, 29, 30, 29, 30, 30],
    },
    4: {365: TWELVE_AND_FIVE, 366: TWELVE_AND_SIX},
    5: {365: TWELVE_AND_FIVE, 366: TWELVE_AND_SIX},
    6: {
        365: [31, 31, 31, 31, 31, 31, 30, 30, 30, 30, 30, 29],
        366: [31, 31, 31, 31, 31, 31, 30, 30, 30, 30, 30, 30],
    },
    7: {364: [7] * 52, 371: [7] * 53},
}

HEBREW_LEAP_YEARS = (3, 6, 8, 11, 14, 17, 19)
ISLAMIC_LEAP_YEARS = (2, 5, 7, 10, 13, 16, 18, 21, 24, 26, 29)


def is_gregorian_leap(y):
    return y % 4 == 0 and (y % 100 != 0 or y % 400 == 0)


def week_years():
    """Years 1 to 400: 53 weeks where a Thursday is the first day, or the last."""
    lengths = []
    weekday = 1
    for y in range(1, 401):
        days = 366 if is_gregorian_leap(y) else 365
        last = (weekday + days - 2) % 7 + 1
        lengths.append(371 if weekday == 4 or last == 4 else 364)
        weekday = last % 7 + 1
    return lengths


def persian_years():
    """Years 475 to 3294: spans of 29, 33 or 37 years, each with a leap year at 5, 9, 13 and so on."""
    spans = [29, 33, 33, 33] * 21 + [29, 33, 33, 37]
    return [366 if n > 1 and n % 4 == 1 else 365 for span in spans for n in range(1, span + 1)]


def by_leap(years, is_leap, common):
    return [common + 1 if is_leap(y) else common for y in years]


# For each kind but the Hebrew: a year, the day it begins on, and the lengths of a cycle from it on.
CYCLES = {
    0: (1, 1, by_leap(range(1, 401), is_gregorian_leap, 365)),
    1: (1, -1, by_leap(range(1, 5), lambda y: y % 4 == 0, 365)),
    3: (1, 227015, by_leap(range(1, 31), lambda y: y in ISLAMIC_LEAP_YEARS, 354)),
    4: (1, 103605, by_leap(range(1, 5), lambda y: y % 4 == 3, 365)),
    5: (1, 2796, by_leap(range(1, 5), lambda y: y % 4 == 3, 365)),
    6: (475, 400021, persian_years()),
    7: (1, 1, week_years()),
}
STARTS = {kind: [sum(lengths[:k]) for k in range(len(lengths) + 1)]
          for kind, (first, begin, lengths) in CYCLES.items()}


def is_hebrew_leap(y):
    return (y - 1) % 19 + 1 in HEBREW_LEAP_YEARS


def hebrew_start(y):
    cycles, years = divmod(y - 1, 19)
    months = 235 * cycles + 12 * years + len([n for n in HEBREW_LEAP_YEARS if n <= years])
    # The first moon: a Monday (1, from Sunday 0), five hours and 204 of 1080 parts.
    moon = ((1 * 24 + 5) * 1080 + 204) + months * ((29 * 24 + 12) * 1080 + 793)
    days, parts = divmod(moon, 24 * 1080)
    late = not is_hebrew_leap(y) and days % 7 == 2 and parts >= 9 * 1080 + 204
    after_leap = is_hebrew_leap(y - 1) and days % 7 == 1 and parts >= 15 * 1080 + 589
    if late or after_leap or parts >= 18 * 1080:
        days += 1
    if days % 7 in (0, 3, 5):
        days += 1
    return days - 1373428


def start(kind, y):
    if kind == 2:
        return hebrew_start(y)
    first, begin, lengths = CYCLES[kind]
    cycles, years = divmod(y - first, len(lengths))
    return begin + cycles * STARTS[kind][-1] + STARTS[kind][years]


def length(kind, y):
    return start(kind, y + 1) - start(kind, y)


def months(kind, y):
    return MONTHS[kind][length(kind, y)]


def year_of(kind, number):
    low, beyond = -2100000000, 2100000000
    while beyond - low > 1:
        middle = (low + beyond) // 2
        if start(kind, middle) <= number:
            low = middle
        else:
            beyond = middle
    return low


def date(kind, number):
    y = year_of(kind, number)
    days = [(y, m, d) for m, days in enumerate(months(kind, y), start=1) for d in range(1, days + 1)]
    return days[number - start(kind, y)]


def day(kind, y, m, d):
    return start(kind, y) + sum(months(kind, y)[:m - 1]) + d - 1


def year_of_length(kind, days, from_year):
    """The first year of that length from a year on."""
    y = from_year
    while length(kind, y) != days:
        y += 1
    return y


def add_months(kind, date_from, n):
    """n months further, from year to year by the months that each has."""
    y, m, d = date_from
    m += n
    while m < 1:
        y -= 1
        m += len(months(kind, y))
    while m > len(months(kind, y)):
        m -= len(months(kind, y))
        y += 1
    return y, m, min(d, months(kind, y)[m - 1])


def western_easter(year):
    """By Butcher's steps, which know no moon's day. Western Easter comes again after 5700000 years."""
    y = year % 5700000
    a, b, c = y % 19, y // 100, y % 100
    g = (b - (b + 8) // 25 + 1) // 3
    h = (19 * a + b - b // 4 - g + 15) % 30
    left = (32 + 2 * (b % 4) + 2 * (c // 4) - h - c % 4) % 7
    m = (a + 11 * h + 22 * left) // 451
    month, days = divmod(h + left - 7 * m + 114, 31)
    return day(0, year, month, days + 1)


def eastern_easter(year):
    """By Meeus's steps, in a Julian year. Eastern Easter comes again after 532 years."""
    y = year % 532
    d = (19 * (y % 19) + 15) % 30
    e = (2 * (y % 4) + 4 * (y % 7) - d + 34) % 7
    month, days = divmod(d + e + 114, 31)
    return day(1, year, month, days + 1)


def month_of(kind, y, m):
    """Every day of a month."""
    first = day(kind, y, m, 1)
    return list(range(first, first + months(kind, y)[m - 1]))


READ_FORM = re.compile(rb"(\d{4}|[+-]\d{6}|[+-][1-9]\d{6,9})(?:-(\d\d)-(\d\d)|-(\d{3})|-W(\d\d)-(\d))")


def parts_day(y, month, days, of_year, week, weekday):
    """The day that the parts of a text tell, or None."""
    if of_year is not None:
        return start(0, y) + of_year - 1 if 1 <= of_year <= length(0, y) else None
    kind, m, d = (0, month, days) if month is not None else (7, week, weekday)
    if 1 <= m <= len(months(kind, y)) and 1 <= d <= months(kind, y)[m - 1]:
        return day(kind, y, m, d)
    return None


def read(text):
    found = READ_FORM.fullmatch(bytes(text))
    if found is None:
        return [-1]
    y = int(found[1])
    if found[1][:1] in b"+-" and 0 <= y <= 9999:
        return [-1]
    number = parts_day(y, *[None if part is None else int(part) for part in found.groups()[1:]])
    return [0, number] if number is not None and LOWEST_DAY <= number <= HIGHEST_DAY else [-1]
