"""Marks: when one is right, and which days have it."""

from chancerydays.daybook import is_feast_day, reign_year
from chancerydays.days import first_sunday_of, roman_of, weekday_of
from chancerydays.styles import indiction_of, style_year

MARK_LENGTH = 5
LAST_KIND = 9
NOTHING = (0, 0)
MONTH = (1, 12)
WEEKDAY = (0, 6)
YEAR = (1, 2000)
GOLDEN_NUMBER = (1, 19)


def bounds_of(daybook, kind):
    """The least and the greatest that a, b, c, x of a mark of this kind may be."""
    feast = (0, len(daybook.feasts) - 1)
    reign = (0, len(daybook.reigns) - 1)
    bounds = (
        (MONTH, (1, 31), NOTHING, NOTHING),
        (MONTH, (0, 2), NOTHING, (1, 19)),
        (WEEKDAY, NOTHING, NOTHING, NOTHING),
        ((0, 5), NOTHING, NOTHING, YEAR),
        ((0, 1), NOTHING, NOTHING, (1, 15)),
        (feast, NOTHING, NOTHING, (-400, 400)),
        (feast, WEEKDAY, (0, 1), NOTHING),
        (reign, NOTHING, NOTHING, YEAR),
        (NOTHING, NOTHING, NOTHING, GOLDEN_NUMBER),
        (WEEKDAY, NOTHING, NOTHING, NOTHING),
    )
    return bounds[kind]


def is_right_mark(daybook, mark):
    if len(mark) != MARK_LENGTH:
        return False
    kind = mark[0]
    if kind < 0 or kind > LAST_KIND:
        return False
    bounds = bounds_of(daybook, kind)
    return all([bound[0] <= number <= bound[1] for bound, number in zip(bounds, mark[1:])])


def is_beside_feast(feast, day, weekday, after):
    """Whether it's the last such weekday before, the first after some year's feast."""
    if weekday_of(day) != weekday:
        return False
    step = -1 if after == 1 else 1
    return any([is_feast_day(feast, day + step * away) for away in range(1, 8)])


def has_mark(daybook, date, mark):
    """Whether the day of this date has the mark, which is right."""
    kind = mark[0]
    a = mark[1]
    b = mark[2]
    x = mark[4]
    if kind == 0:
        return date.month == a and date.nth == b
    if kind == 1:
        return roman_of(date) == (a, b, x)
    if kind == 2:
        return weekday_of(date.day) == a
    if kind == 3:
        return style_year(date, a) == x
    if kind == 4:
        return indiction_of(date, a) == x
    if kind == 5:
        return is_feast_day(daybook.feasts[a], date.day - x)
    if kind == 6:
        return is_beside_feast(daybook.feasts[a], date.day, b, mark[3])
    if kind == 7:
        return reign_year(daybook.reigns[a], date) == x
    if kind == 8:
        return date.year % 19 + 1 == x
    return first_sunday_of(date.year) == a


def days_with(daybook, dates, marks):
    """Those of the days of the dates that have all the marks."""
    for mark in marks:
        dates = [date for date in dates if has_mark(daybook, date, mark)]
    return [date.day for date in dates]
