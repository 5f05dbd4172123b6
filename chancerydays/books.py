"""The calls on one object: how a list of them is read, and what each answers."""

from chancerydays.chancery import Chancery
from chancerydays.daybook import feast_day, reign_year
from chancerydays.days import date_of, day_number, easter_of, is_date, is_day, is_year, roman_of, weekday_of
from chancerydays.marks import has_mark, is_right_mark
from chancerydays.setting import settle
from chancerydays.styles import is_style, style_year


def answer_day(chancery, numbers, rows):
    y = numbers[0]
    m = numbers[1]
    d = numbers[2]
    if not is_date(y, m, d):
        return [-3]
    return [day_number(y, m, d)]


def answer_tell(chancery, numbers, rows):
    day = numbers[0]
    if not is_day(day):
        return [-3]
    date = date_of(day)
    return [0, date.year, date.month, date.nth, weekday_of(day)]


def answer_easter(chancery, numbers, rows):
    y = numbers[0]
    if not is_year(y):
        return [-3]
    return [easter_of(y)]


def answer_roman(chancery, numbers, rows):
    day = numbers[0]
    if not is_day(day):
        return [-3]
    return [0] + list(roman_of(day))


def answer_set(chancery, numbers, rows):
    return settle(chancery, rows)


def answer_feast(chancery, numbers, rows):
    f = numbers[0]
    y = numbers[1]
    feasts = chancery.daybook.feasts
    if not is_year(y) or f < 0 or f >= len(feasts):
        return [-3]
    day = feast_day(feasts[f], y)
    if not is_day(day):
        return [-4]
    return [day]


def answer_year(chancery, numbers, rows):
    r = numbers[0]
    day = numbers[1]
    reigns = chancery.daybook.reigns
    if r < 0 or r >= len(reigns) or not is_day(day):
        return [-3]
    return [reign_year(reigns[r], day)]


def answer_style(chancery, numbers, rows):
    day = numbers[0]
    s = numbers[1]
    if not is_day(day) or not is_style(s):
        return [-3]
    return [style_year(day, s)]


def answer_has(chancery, numbers, rows):
    day = numbers[0]
    mark = rows[0]
    if not is_right_mark(chancery.daybook, mark):
        return [-4]
    if not is_day(day):
        return [-3]
    return [1 if has_mark(chancery.daybook, day, mark) else 0]


# Of each call: what answers it, how many whole numbers it has, and how many rows behind them.
CALLS = {
    1: (answer_day, 3, 0),
    2: (answer_tell, 1, 0),
    3: (answer_easter, 1, 0),
    4: (answer_roman, 1, 0),
    5: (answer_set, 0, 11),
    6: (answer_feast, 2, 0),
    7: (answer_year, 2, 0),
    8: (answer_style, 2, 0),
    9: (answer_has, 1, 1),
}


def read_rows(calls, place, count):
    """The count rows that begin at the place, and where the last one ends."""
    rows = []
    for k in range(count):
        begun = place + 1
        place = begun + calls[place]
        rows.append(calls[begun:place])
    return (rows, place)


def answers(calls):
    """What the calls of the list answer on a new object, each answer with its length before it."""
    chancery = Chancery()
    told = []
    place = 0
    while place < len(calls):
        call = CALLS[calls[place]]
        answer = call[0]
        numbers_end = place + 1 + call[1]
        numbers = calls[place + 1:numbers_end]
        read = read_rows(calls, numbers_end, call[2])
        place = read[1]
        said = answer(chancery, numbers, read[0])
        told.append(len(said))
        told.extend(said)
    return told
