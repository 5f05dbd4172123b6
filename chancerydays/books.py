"""The calls on one object: how a list of them is read, and what each answers."""

from chancerydays.chancery import Chancery
from chancerydays.claims import CLAIM_LENGTH, can_have_been, is_right_claim, spans_of_claim
from chancerydays.daybook import dates_of, feast_day, reign_year
from chancerydays.days import date_of, day_number, easter_of, is_date, is_day, is_year, roman_of, weekday_of
from chancerydays.daysets import common_days, least_set, set_of_days, set_of_spans, spans_of
from chancerydays.groups import in_groups, is_by
from chancerydays.holders import highest_on, holder_on
from chancerydays.marks import MARK_LENGTH, days_with, has_mark, is_right_mark
from chancerydays.names import number_of
from chancerydays.rides import NO_RIDE
from chancerydays.setting import settle
from chancerydays.styles import is_style, style_year

# How many marks, how many claims may be asked about at once.
MOST_AT_ONCE = 8


def is_number_in(number, things):
    return 0 <= number < len(things)


def answer_day(chancery, numbers, rows):
    y = numbers[0]
    m = numbers[1]
    d = numbers[2]
    if not is_date(y, m, d):
        return [-3]
    return [day_number(y, m, d)]


def answer_tell(chancery, numbers, rows):
    day = numbers[0]
    if not is_day(day):
        return [-3]
    date = date_of(day)
    return [0, date.year, date.month, date.nth, weekday_of(day)]


def answer_easter(chancery, numbers, rows):
    y = numbers[0]
    if not is_year(y):
        return [-3]
    return [easter_of(y)]


def answer_roman(chancery, numbers, rows):
    day = numbers[0]
    if not is_day(day):
        return [-3]
    return [0] + list(roman_of(date_of(day)))


def answer_set(chancery, numbers, rows):
    return settle(chancery, rows)


def answer_feast(chancery, numbers, rows):
    f = numbers[0]
    y = numbers[1]
    feasts = chancery.daybook.feasts
    if not is_year(y) or not is_number_in(f, feasts):
        return [-3]
    day = feast_day(feasts[f], y)
    if not is_day(day):
        return [-4]
    return [day]


def answer_year(chancery, numbers, rows):
    r = numbers[0]
    day = numbers[1]
    reigns = chancery.daybook.reigns
    if not is_number_in(r, reigns) or not is_day(day):
        return [-3]
    return [reign_year(reigns[r], date_of(day))]


def answer_style(chancery, numbers, rows):
    day = numbers[0]
    s = numbers[1]
    if not is_day(day) or not is_style(s):
        return [-3]
    return [style_year(date_of(day), s)]


def answer_has(chancery, numbers, rows):
    day = numbers[0]
    mark = rows[0]
    if not is_right_mark(chancery.daybook, mark):
        return [-4]
    if not is_day(day):
        return [-3]
    return [1 if has_mark(chancery.daybook, date_of(day), mark) else 0]


def refusal_of_things(things, is_right, book):
    """What is answered if they are too many or one isn't right by the book; [] if they're neither."""
    if len(things) > MOST_AT_ONCE:
        return [-2]
    wrong = [k for k, thing in enumerate(things) if not is_right(book, thing)]
    return [-4, wrong[0]] if wrong else []


def refusal_of_marks(chancery, row):
    # Of a mark, x alone may be below 0.
    if not is_by(row, MARK_LENGTH, (0, 1, 2, 3)):
        return [-2]
    return refusal_of_things(in_groups(row, MARK_LENGTH), is_right_mark, chancery.daybook)


def refusal_of_claims(chancery, row):
    if not is_by(row, CLAIM_LENGTH, (0, 1, 2)):
        return [-2]
    return refusal_of_things(in_groups(row, CLAIM_LENGTH), is_right_claim, chancery.ledger)


def answer_means(chancery, numbers, rows):
    refusal = refusal_of_marks(chancery, rows[0])
    if refusal:
        return refusal
    daybook = chancery.daybook
    days = days_with(daybook, dates_of(daybook), in_groups(rows[0], MARK_LENGTH))
    return [len(days)] + days


def answer_clash(chancery, numbers, rows):
    refusal = refusal_of_marks(chancery, rows[0])
    if refusal:
        return refusal
    daybook = chancery.daybook
    dates = dates_of(daybook)
    marks = in_groups(rows[0], MARK_LENGTH)
    # A date that means some day is told much quicker so than by its marks one by one.
    if days_with(daybook, dates, marks):
        return [0]
    least = least_set([set_of_days(daybook, days_with(daybook, dates, [mark])) for mark in marks])
    return [len(least)] + least


def answer_find(chancery, numbers, rows):
    what = numbers[0]
    ledger = chancery.ledger
    named = (ledger.persons, ledger.offices, ledger.places)
    if not is_number_in(what, named):
        return [-3]
    number = number_of(named[what], tuple(rows[0]))
    return [-3] if number is None else [number]


def answer_holder(chancery, numbers, rows):
    office = numbers[0]
    day = numbers[1]
    if not is_number_in(office, chancery.ledger.offices) or not is_day(day):
        return [-3]
    person = holder_on(chancery.ledger, office, day)
    return [-4] if person is None else [person]


def answer_highest(chancery, numbers, rows):
    person = numbers[0]
    day = numbers[1]
    if not is_number_in(person, chancery.ledger.persons) or not is_day(day):
        return [-3]
    office = highest_on(chancery.ledger, person, day)
    return [-4] if office is None else [office]


def answer_ride(chancery, numbers, rows):
    i = numbers[0]
    j = numbers[1]
    places = chancery.ledger.places
    if not is_number_in(i, places) or not is_number_in(j, places):
        return [-3]
    days = chancery.rides[i][j]
    return [-4] if days == NO_RIDE else [days]


def answer_can(chancery, numbers, rows):
    day = numbers[0]
    claim = rows[0]
    if not is_right_claim(chancery.ledger, claim):
        return [-4]
    if not is_day(day):
        return [-3]
    return [1 if can_have_been(chancery.ledger, chancery.rides, claim, day) else 0]


def sets_of_claims(chancery, row):
    """Of each claim of the row, the book's days on which it can have been."""
    claims = in_groups(row, CLAIM_LENGTH)
    spans = [spans_of_claim(chancery.ledger, chancery.rides, claim) for claim in claims]
    return [set_of_spans(chancery.daybook, some) for some in spans]


def answer_spans(chancery, numbers, rows):
    refusal = refusal_of_claims(chancery, rows[0])
    if refusal:
        return refusal
    ends = spans_of(common_days(chancery.daybook, sets_of_claims(chancery, rows[0])))
    return [len(ends) // 2] + ends


def answer_barred(chancery, numbers, rows):
    refusal = refusal_of_claims(chancery, rows[0])
    if refusal:
        return refusal
    least = least_set(sets_of_claims(chancery, rows[0]))
    return [len(least)] + least


# Of each call: what answers it, how many whole numbers it has, and how many rows behind them.
CALLS = {
    1: (answer_day, 3, 0),
    2: (answer_tell, 1, 0),
    3: (answer_easter, 1, 0),
    4: (answer_roman, 1, 0),
    5: (answer_set, 0, 11),
    6: (answer_feast, 2, 0),
    7: (answer_year, 2, 0),
    8: (answer_style, 2, 0),
    9: (answer_has, 1, 1),
    10: (answer_means, 0, 1),
    11: (answer_clash, 0, 1),
    12: (answer_find, 1, 1),
    13: (answer_holder, 2, 0),
    14: (answer_highest, 2, 0),
    15: (answer_ride, 2, 0),
    16: (answer_can, 1, 1),
    17: (answer_spans, 0, 1),
    18: (answer_barred, 0, 1),
}


def read_rows(calls, place, count):
    """The count rows that begin at the place, and where the last one ends."""
    rows = []
    for k in range(count):
        begun = place + 1
        place = begun + calls[place]
        rows.append(calls[begun:place])
    return (rows, place)


def answers(calls):
    """What the calls of the list answer on a new object, each answer with its length before it."""
    chancery = Chancery()
    told = []
    place = 0
    while place < len(calls):
        call = CALLS[calls[place]]
        answer = call[0]
        numbers_end = place + 1 + call[1]
        numbers = calls[place + 1:numbers_end]
        read = read_rows(calls, numbers_end, call[2])
        place = read[1]
        said = answer(chancery, numbers, read[0])
        told.append(len(said))
        told.extend(said)
    return told
