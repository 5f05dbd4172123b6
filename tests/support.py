"""What the tests share: how calls are written, and a calendar that is walked day by day."""

import functools

from chancerydays.books import answers

LAST_DAY = 730499
MOST_CALLS = 400
MOST_NUMBERS = 16000
HUGE = 10 ** 18
SET_ROWS = ("head", "feasts", "reigns", "lives", "persons", "offices", "holds", "seals", "places", "ways", "seens")


def flat(things):
    return [number for thing in things for number in thing]


def row(numbers):
    """A row as it stands in a list of calls; a text stands for its bytes."""
    numbers = list(numbers.encode("ascii")) if isinstance(numbers, str) else list(numbers)
    return [len(numbers)] + numbers


def day_call(y, m, d):
    return [1, y, m, d]


def tell_call(day):
    return [2, day]


def easter_call(y):
    return [3, y]


def roman_call(day):
    return [4, day]


def set_call(**rows):
    """A set of the year 1 with nothing else, but for the rows that are given."""
    rows.setdefault("head", [1, 1])
    assert set(rows) <= set(SET_ROWS)
    call = [5]
    for name in SET_ROWS:
        call += row(rows.get(name, []))
    return call


def feast_call(f, y):
    return [6, f, y]


def year_call(r, day):
    return [7, r, day]


def style_call(day, s):
    return [8, day, s]


def has_call(day, *mark):
    return [9, day] + row(mark)


def means_call(*marks):
    return [10] + row(flat(marks))


def clash_call(*marks):
    return [11] + row(flat(marks))


def find_call(what, name):
    return [12, what] + row(name)


def holder_call(office, day):
    return [13, office, day]


def highest_call(person, day):
    return [14, person, day]


def ride_call(i, j):
    return [15, i, j]


def can_call(day, *claim):
    return [16, day] + row(claim)


def spans_call(*claims):
    return [17] + row(flat(claims))


def barred_call(*claims):
    return [18] + row(flat(claims))


def ask_line(calls):
    """The answers, each a list, to calls that are one line."""
    line = [number for call in calls for number in call]
    assert len(calls) <= MOST_CALLS and len(line) <= MOST_NUMBERS
    told = answers(line)
    said = []
    place = 0
    while place < len(told):
        end = place + 1 + told[place]
        said.append(told[place + 1:end])
        assert len(said[-1]) == told[place]
        place = end
    assert len(said) == len(calls)
    return said


def ask(*calls):
    return ask_line(list(calls))


def ask_all(calls, before=None):
    """The answers to however many calls, in as many lines as it takes, each behind the call before."""
    first = [] if before is None else [before]
    said = []
    line = list(first)
    size = sum(map(len, first))
    for call in calls:
        if len(line) == MOST_CALLS or size + len(call) > MOST_NUMBERS:
            said += ask_line(line)[len(first):]
            line = list(first)
            size = sum(map(len, first))
        line.append(call)
        size += len(call)
    said += ask_line(line)[len(first):]
    return said


def wrong_answers(calls, expected, before=None):
    """The first few (call, answer, expected answer) that differ; a short list, where a whole one would take long to show."""
    calls = list(calls)
    expected = list(expected)
    said = ask_all(calls, before)
    assert len(said) == len(expected)
    return [one for one in zip(calls, said, expected) if one[1] != one[2]][:5]


def months_of(y):
    return [31, 29 if y in LEAP_YEARS else 28, 31, 30, 31, 30, 31, 31, 30, 31, 30, 31]


LEAP_YEARS = frozenset(range(4, 2001, 4))


def walk():
    """(y, m, d, weekday) of each day, one behind another."""
    days = []
    weekday = 5
    for y in range(1, 2001):
        for m, length in enumerate(months_of(y), start=1):
            for d in range(1, length + 1):
                days.append((y, m, d, weekday))
                weekday = 0 if weekday == 6 else weekday + 1
    return days


DAYS = walk()
NUMBERS = {day[:3]: number for number, day in enumerate(DAYS)}


def walk_easters():
    """Easter of each year, by walking on from the 21st of month 3."""
    easters = {}
    for y in range(1, 2001):
        day = NUMBERS[(y, 3, 21)] + (19 * (y % 19) + 15) % 30 + 1
        while DAYS[day][3] != 6:
            day += 1
        easters[y] = day
    return easters


EASTERS = walk_easters()


@functools.cache
def walk_styles():
    """For each style the year of each day, one more on each day on which a year begins."""
    begins = {0: {(1, 1)}, 1: {(3, 25)}, 2: {(3, 25)}, 3: {(12, 25)}, 5: {(9, 1)}}
    easter_days = set(EASTERS.values())
    styles = []
    for s, year in enumerate([0, 0, 1, 1, 0, 1]):
        years = []
        for number, (y, m, d, weekday) in enumerate(DAYS):
            if number in easter_days if s == 4 else (m, d) in begins[s]:
                year += 1
            years.append(year)
        styles.append(years)
    return styles


@functools.cache
def walk_romans():
    """(month, kalends 0, nones 1, ides 2, n) of each day, from the last day back."""
    romans = []
    month, which, n = 1, 0, 1
    for y, m, d, weekday in reversed(DAYS):
        late = m in (3, 5, 7, 10)
        fixed = {1: 0, 7 if late else 5: 1, 15 if late else 13: 2}
        n += 1
        if d in fixed:
            month, which, n = m, fixed[d], 1
        romans.append((month, which, n))
    romans.reverse()
    return romans
