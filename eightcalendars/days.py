"""Days and their dates in eight calendars, and what is reckoned with them.

Days are numbered from the Gregorian year 1's first day, 1, on both sides.
"""

GREGORIAN = 0
JULIAN = 1
HEBREW = 2
ISLAMIC = 3
COPTIC = 4
ETHIOPIAN = 5
PERSIAN = 6
WEEKS = 7

WESTERN = 0
EASTERN = 1

MONTH_STYLE = 0
YEAR_STYLE = 1
WEEK_STYLE = 2

LOWEST_YEAR = -1900000000
HIGHEST_YEAR = 1900000000
LOWEST_DAY = -700000000000
HIGHEST_DAY = 700000000000
MOST_MONTHS = 120000
MOST_DAYS = 1000000

# For each style, in order: what stands behind the year, a 9 for any digit.
FORMS = ("-99-99", "-999", "-W99-9")

REFUSAL = -1

# For each kind, in order: so many days in so many years, on the whole.
MEAN_YEARS = (
    (146097, 400),
    (1461, 4),
    (35975351, 98496),
    (10631, 30),
    (1461, 4),
    (1461, 4),
    (1029983, 2820),
    (146097, 400),
)


def is_kind(kind):
    return GREGORIAN <= kind <= WEEKS


def is_year(y):
    return LOWEST_YEAR <= y <= HIGHEST_YEAR


def is_day(number):
    return LOWEST_DAY <= number <= HIGHEST_DAY


def gregorian_start(y):
    past = y - 1
    return 365 * past + past // 4 - past // 100 + past // 400 + 1


def julian_start(y):
    past = y - 1
    return 365 * past + past // 4 - 1


def hebrew_months_before(y):
    return (235 * y - 234) // 19


def hebrew_elapsed(y):
    months = hebrew_months_before(y)
    days = 29 * months + (12084 + 13753 * months) // 25920
    # No year may begin on a Sunday, a Wednesday or a Friday.
    if 3 * (days + 1) % 7 < 3:
        return days + 1
    return days


def hebrew_start(y):
    elapsed = hebrew_elapsed(y)
    start = -1373427 + elapsed
    # Put off, for else this year would be too long, or the one before too short.
    if hebrew_elapsed(y + 1) - elapsed == 356:
        return start + 2
    if elapsed - hebrew_elapsed(y - 1) == 382:
        return start + 1
    return start


def islamic_start(y):
    return 227015 + 354 * (y - 1) + (3 + 11 * y) // 30


def coptic_start(y):
    return 103605 + 365 * (y - 1) + y // 4


def ethiopian_start(y):
    return 2796 + 365 * (y - 1) + y // 4


def persian_start(y):
    past = y - 474
    z = past % 2820 + 474
    return 226896 + 1029983 * (past // 2820) + 365 * (z - 1) + (31 * z - 5) // 128


def weeks_start(y):
    fourth = gregorian_start(y) + 3
    return fourth - (fourth - 1) % 7


def year_start(kind, y):
    if kind == GREGORIAN:
        return gregorian_start(y)
    if kind == JULIAN:
        return julian_start(y)
    if kind == HEBREW:
        return hebrew_start(y)
    if kind == ISLAMIC:
        return islamic_start(y)
    if kind == COPTIC:
        return coptic_start(y)
    if kind == ETHIOPIAN:
        return ethiopian_start(y)
    if kind == PERSIAN:
        return persian_start(y)
    return weeks_start(y)


def year_of(kind, number):
    """The year of a kind in which the day of that number lies."""
    mean = MEAN_YEARS[kind]
    y = (number - year_start(kind, 0)) * mean[1] // mean[0]
    # The mean is a guess only: the years about it differ in length.
    while year_start(kind, y) > number:
        y -= 1
    while year_start(kind, y + 1) <= number:
        y += 1
    return y


def hebrew_months(length):
    second = 30 if length % 10 == 5 else 29
    third = 29 if length % 10 == 3 else 30
    leap = [30] if length > 380 else []
    return [30, second, third, 29, 30] + leap + [29, 30, 29, 30, 29, 30, 29]


def month_lengths(kind, y):
    """How many days each month of a year has, in order."""
    length = year_start(kind, y + 1) - year_start(kind, y)
    if kind == GREGORIAN or kind == JULIAN:
        return [31, length - 337, 31, 30, 31, 30, 31, 31, 30, 31, 30, 31]
    if kind == HEBREW:
        return hebrew_months(length)
    if kind == ISLAMIC:
        return [30, 29] * 5 + [30, length - 325]
    if kind == COPTIC or kind == ETHIOPIAN:
        return [30] * 12 + [length - 360]
    if kind == PERSIAN:
        return [31] * 6 + [30] * 5 + [length - 336]
    return [7] * (length // 7)


def months_before(kind, y):
    """How many months a calendar has ahead of a year, from a month on that stays the same."""
    if kind == HEBREW:
        return hebrew_months_before(y)
    if kind == COPTIC or kind == ETHIOPIAN:
        return 13 * y
    if kind == WEEKS:
        return weeks_start(y) // 7
    return 12 * y


def year_of_month(kind, before):
    """The year of the month that has so many months ahead of it."""
    if kind == HEBREW:
        # The highest y for which (235 y - 234) / 19, rounded down, is not above.
        return (19 * before + 252) // 235
    if kind == COPTIC or kind == ETHIOPIAN:
        return before // 13
    if kind == WEEKS:
        return year_of(kind, 7 * before + 1)
    return before // 12


def day_of(kind, y, m, d):
    """The day of a date in any year, or None if there is no such date."""
    lengths = month_lengths(kind, y)
    if m < 1 or m > len(lengths) or d < 1 or d > lengths[m - 1]:
        return None
    return year_start(kind, y) + sum(lengths[:m - 1]) + d - 1


def date_after_months(kind, y, m, d, n):
    """[year, month, day of the month] n months further, of a date in any year."""
    before = months_before(kind, y) + m - 1 + n
    later = year_of_month(kind, before)
    month = before - months_before(kind, later) + 1
    last = month_lengths(kind, later)[month - 1]
    return [later, month, min(d, last)]


def day(kind, y, m, d):
    """[0, the date's day], or [-1]."""
    if not is_kind(kind) or not is_year(y):
        return [REFUSAL]
    found = day_of(kind, y, m, d)
    if found is None:
        return [REFUSAL]
    return [0, found]


def date(kind, day):
    """[0, year, month, day of the month], or [-1]."""
    if not is_kind(kind) or not is_day(day):
        return [REFUSAL]
    y = year_of(kind, day)
    left = day - year_start(kind, y)
    m = 1
    for length in month_lengths(kind, y):
        if left < length:
            break
        left -= length
        m += 1
    return [0, y, m, left + 1]


def convert(kind, y, m, d, to):
    """[0, year, month, day of the month] in another calendar, or [-1]."""
    found = day(kind, y, m, d)
    if found == [REFUSAL]:
        return [REFUSAL]
    # All years that may be handed over lie well within the days that date takes.
    return date(to, found[1])


def weekday(day):
    """[Monday 1 to Sunday 7], or [-1]."""
    if not is_day(day):
        return [REFUSAL]
    return [(day - 1) % 7 + 1]


def western_moon(y):
    """How many days the moon's day lies ahead of April 19."""
    c = y // 100 + 1
    left = (14 + 11 * (y % 19) - (3 * c) // 4 + (5 + 8 * c) // 25) % 30
    if left == 0 or (left == 1 and y % 19 > 10):
        return left + 1
    return left


def easter(which, year):
    """[0, Easter's day], or [-1]."""
    if (which != WESTERN and which != EASTERN) or not is_year(year):
        return [REFUSAL]
    if which == WESTERN:
        moon = day_of(GREGORIAN, year, 4, 19) - western_moon(year)
    else:
        moon = day_of(JULIAN, year, 4, 19) - (14 + 11 * (year % 19)) % 30
    # Sundays leave 0 by 7, and a moon's day that is one isn't Easter itself.
    return [0, moon + 7 - moon % 7]


def add(kind, y, m, d, n):
    """[0, year, month, day of the month] n months further, or [-1]."""
    if day(kind, y, m, d) == [REFUSAL] or n < -MOST_MONTHS or n > MOST_MONTHS:
        return [REFUSAL]
    return [0] + date_after_months(kind, y, m, d, n)


def day_after_months(kind, begin, n):
    """The day n months further than a date as it is answered."""
    later = date_after_months(kind, begin[1], begin[2], begin[3], n)
    return day_of(kind, later[0], later[1], later[2])


def between(kind, a, b):
    """[0, how many months from a to b, how many days are left then], or [-1]."""
    begin = date(kind, a)
    end = date(kind, b)
    if begin == [REFUSAL] or end == [REFUSAL] or a > b or b - a > MOST_DAYS:
        return [REFUSAL]
    months = months_before(kind, end[1]) + end[2] - months_before(kind, begin[1]) - begin[2]
    # So many months lead into b's month, but perhaps to a day behind b.
    if day_after_months(kind, begin, months) > b:
        months -= 1
    return [0, months, b - day_after_months(kind, begin, months)]


def nth(kind, y, m, w, n):
    """[0, the day of the n-th day w of the week in a month], or [-1]."""
    begin = day(kind, y, m, 1)
    if begin == [REFUSAL] or w < 1 or w > 7 or n == 0:
        return [REFUSAL]
    first = begin[1]
    last = first + month_lengths(kind, y)[m - 1] - 1
    # A day leaves by 7 what its day of the week does.
    if n > 0:
        found = first + (w - first) % 7 + 7 * (n - 1)
    else:
        found = last - (last - w) % 7 + 7 * (n + 1)
    if found < first or found > last:
        return [REFUSAL]
    return [0, found]


def year_text(y):
    if 0 <= y <= 9999:
        return str(y).zfill(4)
    sign = "-" if y < 0 else "+"
    return sign + str(abs(y)).zfill(6)


def date_text(style, number):
    kind = WEEKS if style == WEEK_STYLE else GREGORIAN
    found = date(kind, number)
    year = year_text(found[1])
    if style == MONTH_STYLE:
        return year + "-" + str(found[2]).zfill(2) + "-" + str(found[3]).zfill(2)
    if style == YEAR_STYLE:
        return year + "-" + str(number - year_start(kind, found[1]) + 1).zfill(3)
    return year + "-W" + str(found[2]).zfill(2) + "-" + str(found[3])


def tell(style, day):
    """[how long the day's text is, then its bytes], or [-1]."""
    if style < MONTH_STYLE or style > WEEK_STYLE or not is_day(day):
        return [REFUSAL]
    text = date_text(style, day)
    return [len(text)] + [ord(sign) for sign in text]


def fits(form, part):
    """Whether these bytes are as a form has them."""
    if len(part) != len(form):
        return False
    for sign, byte in zip(form, part):
        if sign == "9" and (byte < ord("0") or byte > ord("9")):
            return False
        if sign != "9" and byte != ord(sign):
            return False
    return True


def number_in(digits):
    """The number that these bytes tell, if all of them are digits."""
    number = 0
    for byte in digits:
        number = 10 * number + byte - ord("0")
    return number


def year_in(part):
    """The year that these bytes tell, or None."""
    if fits("9999", part):
        return number_in(part)
    count = len(part) - 1
    if count < 6 or count > 10 or (count > 6 and part[1] == ord("0")):
        return None
    number = number_in(part[1:])
    # Years from 0 to 9999 have no sign.
    if fits("+" + "9" * count, part) and number > 9999:
        return number
    if fits("-" + "9" * count, part) and number > 0:
        return -number
    return None


def day_in(style, y, part):
    """The day that a year and the bytes behind it tell, or None."""
    if style == MONTH_STYLE:
        return day_of(GREGORIAN, y, number_in(part[1:3]), number_in(part[4:]))
    if style == WEEK_STYLE:
        return day_of(WEEKS, y, number_in(part[2:4]), number_in(part[5:]))
    number = year_start(GREGORIAN, y) + number_in(part[1:]) - 1
    return number if year_of(GREGORIAN, number) == y else None


def read(text):
    """[0, the day that a text tells], or [-1]."""
    for style, form in enumerate(FORMS):
        part = text[-len(form):]
        if fits(form, part):
            y = year_in(text[:-len(form)])
            found = None if y is None else day_in(style, y, part)
            if found is not None and is_day(found):
                return [0, found]
    return [REFUSAL]
