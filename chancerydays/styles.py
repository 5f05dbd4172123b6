"""Styles: where a year begins; and the indictions that are reckoned by them."""

from chancerydays.days import day_number, easter_of

LAST_STYLE = 5
CALENDAR_STYLE = 0
EASTER_STYLE = 4
SEPTEMBER_STYLE = 5
# By these a year begins within the calendar year before it.
STYLES_AHEAD = (2, 3, 5)
# The month and the day on which a year begins; by style 4 it begins at Easter.
BEGINNINGS = {0: (1, 1), 1: (3, 25), 2: (3, 25), 3: (12, 25), 5: (9, 1)}


def is_style(s):
    return 0 <= s <= LAST_STYLE


def turn_of(y, s):
    """The day of calendar year y on which a year by style s begins."""
    if s == EASTER_STYLE:
        return easter_of(y)
    beginning = BEGINNINGS[s]
    return day_number(y, beginning[0], beginning[1])


def style_year(date, s):
    """The year in which the day lies by style s."""
    y = date.year
    begins_in_y = y + 1 if s in STYLES_AHEAD else y
    return begins_in_y if date.day >= turn_of(y, s) else begins_in_y - 1


def indiction_of(date, a):
    s = SEPTEMBER_STYLE if a == 0 else CALENDAR_STYLE
    return (style_year(date, s) + 2) % 15 + 1
