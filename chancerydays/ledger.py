"""The books: persons, offices, holds, seals, places, ways, seens, and their rules."""

from chancerydays.days import is_day, is_span
from chancerydays.names import is_capital_name, is_small_name
from chancerydays.rides import ride_table
from chancerydays.rules import first_broken, first_of

MOST_PERSONS = 32
MOST_OFFICES = 16
MOST_HOLDS = 64
MOST_SEALS = 16
MOST_PLACES = 16
MOST_SEENS = 64
MOST_WAYS = 240
LONGEST_WAY = 1000


class Ledger:
    """Lives and seals are tuples (first, last), persons, offices and places names,
    holds (person, office, first, last), ways (i, j, n), seens (day, place)."""

    def __init__(self, lives, persons, offices, holds, seals, places, ways, seens):
        self.lives = lives
        self.persons = persons
        self.offices = offices
        self.holds = holds
        self.seals = seals
        self.places = places
        self.ways = ways
        self.seens = seens


def empty_ledger():
    return Ledger([], [], [], [], [], [], [], [])


def repeats(names):
    return [k for k, name in enumerate(names) if name in names[:k]]


def is_hold(ledger, hold):
    return hold[0] < len(ledger.persons) and hold[1] < len(ledger.offices) and is_span(hold[2], hold[3])


def is_within_life(ledger, hold):
    life = ledger.lives[hold[0]]
    return life[0] <= hold[2] and hold[3] <= life[1]


def holds_together(one, other):
    """Whether two holds are of one office and have a day in common."""
    return one[1] == other[1] and one[2] <= other[3] and other[2] <= one[3]


def is_way(ledger, way):
    count = len(ledger.places)
    return way[0] < count and way[1] < count and way[0] != way[1] and 1 <= way[2] <= LONGEST_WAY


def leads_alike(one, other):
    return one[0] == other[0] and one[1] == other[1]


def rule_of_counts(ledger):
    counts = (
        (len(ledger.persons), MOST_PERSONS),
        (len(ledger.offices), MOST_OFFICES),
        (len(ledger.holds), MOST_HOLDS),
        (len(ledger.seals), MOST_SEALS),
        (len(ledger.places), MOST_PLACES),
        (len(ledger.seens), MOST_SEENS),
        (len(ledger.ways), MOST_WAYS),
    )
    return first_of([k for k, count in enumerate(counts) if count[0] > count[1]])


def rule_of_persons(ledger):
    for k, life in enumerate(ledger.lives):
        if not is_span(life[0], life[1]) or not is_capital_name(ledger.persons[k]):
            return k
    return None


def rule_of_repeated_persons(ledger):
    return first_of(repeats(ledger.persons))


def rule_of_offices(ledger):
    return first_of([k for k, name in enumerate(ledger.offices) if not is_small_name(name)])


def rule_of_repeated_offices(ledger):
    return first_of(repeats(ledger.offices))


def rule_of_holds(ledger):
    return first_of([k for k, hold in enumerate(ledger.holds) if not is_hold(ledger, hold)])


def rule_of_lives(ledger):
    return first_of([k for k, hold in enumerate(ledger.holds) if not is_within_life(ledger, hold)])


def rule_of_one_holder(ledger):
    for k, hold in enumerate(ledger.holds):
        if any([holds_together(hold, earlier) for earlier in ledger.holds[:k]]):
            return k
    return None


def rule_of_seals(ledger):
    return first_of([k for k, seal in enumerate(ledger.seals) if not is_span(seal[0], seal[1])])


def rule_of_places(ledger):
    return first_of([k for k, name in enumerate(ledger.places) if not is_capital_name(name)])


def rule_of_repeated_places(ledger):
    return first_of(repeats(ledger.places))


def rule_of_ways(ledger):
    for k, way in enumerate(ledger.ways):
        if not is_way(ledger, way) or any([leads_alike(way, earlier) for earlier in ledger.ways[:k]]):
            return k
    return None


def rule_of_seens(ledger):
    count = len(ledger.places)
    return first_of([k for k, seen in enumerate(ledger.seens) if not is_day(seen[0]) or seen[1] >= count])


def rule_of_order(ledger):
    seens = ledger.seens
    return first_of([k for k in range(1, len(seens)) if seens[k][0] <= seens[k - 1][0]])


def rule_of_rides(ledger):
    rides = ride_table(len(ledger.places), ledger.ways)
    for k in range(1, len(ledger.seens)):
        before = ledger.seens[k - 1]
        seen = ledger.seens[k]
        if rides[before[1]][seen[1]] > seen[0] - before[0]:
            return k
    return None


LEDGER_RULES = (
    rule_of_counts,
    rule_of_persons,
    rule_of_repeated_persons,
    rule_of_offices,
    rule_of_repeated_offices,
    rule_of_holds,
    rule_of_lives,
    rule_of_one_holder,
    rule_of_seals,
    rule_of_places,
    rule_of_repeated_places,
    rule_of_ways,
    rule_of_seens,
    rule_of_order,
    rule_of_rides,
)


def broken_ledger_rule(ledger):
    return first_broken(LEDGER_RULES, ledger)
