"""What marks, claims, rides, spans and least sets come to, told by walking days and by trying all there is."""

import functools
import itertools

from tests.support import DAYS, EASTERS, LAST_DAY, NUMBERS, months_of, walk_romans, walk_styles


def days_of_years(first, last):
    """The days of a book, by looking at each day's year."""
    begin = NUMBERS[(first, 1, 1)]
    return list(itertools.takewhile(lambda day: day <= LAST_DAY and DAYS[day][0] <= last, itertools.count(begin)))


def reign_years(first, last, end=LAST_DAY):
    """Which year of the reign each of its days up to the end lies in, by walking on from its first day."""
    y, m, d, weekday = DAYS[first]
    years = {}
    k = 0
    for day in range(first, min(last, end) + 1):
        year, month, nth, weekday = DAYS[day]
        if (m, d) == (2, 29) and months_of(year)[1] == 28:
            begins = (month, nth) == (3, 1)
        else:
            begins = (month, nth) == (m, d)
        k += 1 if begins else 0
        years[day] = k
    return years


@functools.cache
def days_of_feast(moves, m, d, off):
    """The days of a feast, year by year, without those that are no days."""
    days = [NUMBERS[(y, m, d)] if moves == 0 else EASTERS[y] + off for y in range(1, 2001)]
    return [day for day in days if 0 <= day <= LAST_DAY]


def beside(feast, weekday, step):
    """The next day of the weekday, from the feast on (or back), the feast's own not counted."""
    day = feast + step
    while 0 <= day <= LAST_DAY and DAYS[day][3] != weekday:
        day += step
    return day


class WalkedDays:
    """A book of days, of which each mark's days are found by walking them."""

    def __init__(self, head, feasts, reigns):
        self.days = days_of_years(*head)
        near = range(self.days[0] - 500, self.days[-1] + 500)
        self.feasts = [[day for day in days_of_feast(*feast) if day in near] for feast in feasts]
        self.reigns = [reign_years(*reign, self.days[-1]) for reign in reigns]

    def having(self, mark):
        """The book's days that have the mark."""
        kind, a, b, c, x = mark
        if kind == 5:
            found = {day + x for day in self.feasts[a]}
        elif kind == 6:
            found = {beside(day, b, 1 if c else -1) for day in self.feasts[a]}
        else:
            found = [day for day in self.days if self.has(day, mark)]
        return set(self.days) & set(found)

    def has(self, day, mark):
        kind, a, b, c, x = mark
        y, m, d, weekday = DAYS[day]
        if kind == 0:
            return (m, d) == (a, b)
        if kind == 1:
            return walk_romans()[day] == (a, b, x)
        if kind == 2:
            return weekday == a
        if kind == 3:
            return walk_styles()[a][day] == x
        if kind == 4:
            return (walk_styles()[(5, 0)[a]][day] + 2) % 15 + 1 == x
        if kind == 7:
            return self.reigns[a].get(day, 0) == x
        if kind == 8:
            return y % 19 + 1 == x
        return DAYS[NUMBERS[(y, 1, a + 1)]][3] == 6


def walked_rides(count, ways):
    """The rides as a dict, found by going on over ways until nothing gets shorter."""
    rides = {(i, i): 0 for i in range(count)}
    changed = True
    while changed:
        changed = False
        for (start, i), days in list(rides.items()):
            for begin, j, n in ways:
                if begin == i and days + n < rides.get((start, j), days + n + 1):
                    rides[(start, j)] = days + n
                    changed = True
    return rides


class WalkedBooks:
    """The books, of which each claim is judged day by day."""

    def __init__(self, lives, holds, seals, places, ways, seens):
        self.lives = lives
        self.holds = holds
        self.seals = seals
        self.rides = walked_rides(places, ways)
        self.seens = seens

    def can_ride(self, i, j, days):
        return (i, j) in self.rides and self.rides[(i, j)] <= days

    def court_can(self, day, place):
        before = [seen for seen in self.seens if seen[0] <= day]
        after = [seen for seen in self.seens if seen[0] >= day]
        if before and not self.can_ride(before[-1][1], place, day - before[-1][0]):
            return False
        return not after or self.can_ride(place, after[0][1], after[0][0] - day)

    def can(self, day, claim):
        kind, a, b = claim
        if kind == 0:
            return day in range(self.lives[a][0], self.lives[a][1] + 1)
        if kind == 1:
            return any((a, b) == hold[:2] and day in range(hold[2], hold[3] + 1) for hold in self.holds)
        if kind == 2:
            return day in range(self.seals[a][0], self.seals[a][1] + 1)
        return self.court_can(day, a)


def spans_told(days):
    """What spans answers of these days."""
    days = set(days)
    firsts = sorted(day for day in days if day - 1 not in days)
    lasts = sorted(day for day in days if day + 1 not in days)
    return [len(firsts)] + [number for span in zip(firsts, lasts) for number in span]


def compared(one, other):
    """Which of two sets comes first: the one that has the least number that's in just one of them."""
    if one == other:
        return 0
    return -1 if min(one ^ other) in one else 1


def least_told(all_days, day_sets):
    """What clash and barred answer, found among all sets of things."""
    numbers = range(len(day_sets))
    every = [set(some) for size in numbers for some in itertools.combinations(numbers, size + 1)]
    barred = [some for some in every if not set(all_days).intersection(*[day_sets[k] for k in some])]
    if not barred:
        return [0]
    fewest = min(map(len, barred))
    least = min([some for some in barred if len(some) == fewest], key=functools.cmp_to_key(compared))
    return [fewest] + sorted(least)
