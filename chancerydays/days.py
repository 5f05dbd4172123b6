"""The calendar: years, months, days, weekdays, Easter, and the Roman way of telling a day."""

LAST_YEAR = 2000
LAST_DAY = 730499
DAYS_OF_FOUR_YEARS = 1461
FIRST_WEEKDAY = 5
SUNDAY = 6
KALENDS = 0
NONES = 1
IDES = 2
MONTHS_OF_LATE_NONES = (3, 5, 7, 10)
# How many days of a common year lie before each month; the last number is the whole year's.
DAYS_BEFORE = (0, 31, 59, 90, 120, 151, 181, 212, 243, 273, 304, 334, 365)


class Date:
    """A day with its year, its month, and its number within the month."""

    def __init__(self, day, year, month, nth):
        self.day = day
        self.year = year
        self.month = month
        self.nth = nth


def is_year(y):
    return 1 <= y <= LAST_YEAR


def is_day(day):
    return 0 <= day <= LAST_DAY


def is_span(first, last):
    return 0 <= first <= last <= LAST_DAY


def is_leap(y):
    return y % 4 == 0


def days_before_month(y, m):
    """How many days of year y lie before month m; for m 13, how many it has."""
    leap_day = 1 if m > 2 and is_leap(y) else 0
    return DAYS_BEFORE[m - 1] + leap_day


def month_length(y, m):
    return days_before_month(y, m + 1) - days_before_month(y, m)


def year_start(y):
    """The 1st of month 1 of y; also of the years just outside the calendar."""
    return 365 * (y - 1) + (y - 1) // 4


def day_number(y, m, d):
    return year_start(y) + days_before_month(y, m) + d - 1


def is_date(y, m, d):
    return is_year(y) and 1 <= m <= 12 and 1 <= d <= month_length(y, m)


def date_of(day):
    rest = day % DAYS_OF_FOUR_YEARS
    # On the last day of a leap year rest is four times 365, yet no fifth year has begun.
    years = min(rest // 365, 3)
    y = 4 * (day // DAYS_OF_FOUR_YEARS) + years + 1
    rest = rest - 365 * years
    # No month has more than 31 days, so it's not before this one.
    m = rest // 31 + 1
    while days_before_month(y, m + 1) <= rest:
        m += 1
    return Date(day, y, m, rest - days_before_month(y, m) + 1)


def weekday_of(day):
    return (day + FIRST_WEEKDAY) % 7


def easter_of(y):
    moon = day_number(y, 3, 21) + (19 * (y % 19) + 15) % 30
    # On a Sunday the next one is meant: 7 days then, never 0.
    return moon + 7 - (weekday_of(moon) + 1) % 7


def is_easter(day):
    """Whether it's Easter of some year; asked also of what lies just outside all days."""
    # The weekday comes first since it's quickly told and settles most days.
    if weekday_of(day) != SUNDAY:
        return False
    y = date_of(day).year
    return is_year(y) and easter_of(y) == day


def first_sunday_of(y):
    """Which of month 1, from 0 on, is the first Sunday of y."""
    return SUNDAY - weekday_of(year_start(y))


def roman_of(date):
    """The month, kalends, nones or ides, and n by which a day is told."""
    nones = 7 if date.month in MONTHS_OF_LATE_NONES else 5
    ides = nones + 8
    if date.nth == 1:
        return (date.month, KALENDS, 1)
    if date.nth <= nones:
        return (date.month, NONES, nones - date.nth + 1)
    if date.nth <= ides:
        return (date.month, IDES, ides - date.nth + 1)
    left = month_length(date.year, date.month) - date.nth
    return (date.month % 12 + 1, KALENDS, left + 2)
