"""The book of days: its years, feasts and reigns, and its rules."""

from chancerydays.days import date_of, day_number, easter_of, is_date, is_day, is_easter, is_span, is_year, year_start
from chancerydays.rules import first_broken, first_of

MOST_YEARS_BEHIND = 2
MOST_FEASTS = 16
MOST_REIGNS = 16
COMMON_YEAR = 1


class Daybook:
    """Feasts are tuples (moves, m, d, off), reigns tuples (first, last)."""

    def __init__(self, first_year, last_year, feasts, reigns):
        self.first_year = first_year
        self.last_year = last_year
        self.feasts = feasts
        self.reigns = reigns


def first_day_of(daybook):
    return year_start(daybook.first_year)


def last_day_of(daybook):
    return year_start(daybook.last_year + 1) - 1


def days_of(daybook):
    """The book's days, in order."""
    return list(range(first_day_of(daybook), last_day_of(daybook) + 1))


def dates_of(daybook):
    return [date_of(day) for day in days_of(daybook)]


def are_years(first, last):
    return is_year(first) and is_year(last) and 0 <= last - first <= MOST_YEARS_BEHIND


def is_feast(feast):
    moves = feast[0]
    m = feast[1]
    d = feast[2]
    off = feast[3]
    if moves == 0:
        # A day that all years have is one that a common year has.
        return is_date(COMMON_YEAR, m, d) and off == 0
    return moves == 1 and m == 0 and d == 0 and -90 <= off <= 200


def rule_of_counts(daybook):
    if not are_years(daybook.first_year, daybook.last_year):
        return 0
    if len(daybook.feasts) > MOST_FEASTS:
        return 1
    if len(daybook.reigns) > MOST_REIGNS:
        return 2
    return None


def rule_of_feasts(daybook):
    return first_of([k for k, feast in enumerate(daybook.feasts) if not is_feast(feast)])


def rule_of_reigns(daybook):
    return first_of([k for k, reign in enumerate(daybook.reigns) if not is_span(reign[0], reign[1])])


DAYBOOK_RULES = (rule_of_counts, rule_of_feasts, rule_of_reigns)


def broken_daybook_rule(daybook):
    return first_broken(DAYBOOK_RULES, daybook)


def feast_day(feast, y):
    """The feast's day of year y, which may lie outside all days."""
    if feast[0] == 0:
        return day_number(y, feast[1], feast[2])
    return easter_of(y) + feast[3]


def is_feast_day(feast, day):
    """Whether it's a day, and some year's feast."""
    if not is_day(day):
        return False
    if feast[0] == 0:
        date = date_of(day)
        return date.month == feast[1] and date.nth == feast[2]
    return is_easter(day - feast[3])


def return_of(begun, y):
    """The return, in year y, of the date on which a reign has begun."""
    # Where y has no 29th of month 2 this counts on to the 1st of month 3, as a return is asked to.
    return day_number(y, begun.month, begun.nth)


def reign_year(reign, date):
    """Which year of the reign the day lies in, 0 if in none."""
    if date.day < reign[0] or date.day > reign[1]:
        return 0
    begun = date_of(reign[0])
    years_since = date.year - begun.year
    return years_since + 1 if date.day >= return_of(begun, date.year) else years_since
