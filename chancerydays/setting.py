"""The call set: rows that become the object's book of days and books, or are refused."""

from chancerydays.daybook import Daybook, broken_daybook_rule
from chancerydays.groups import in_groups, is_by
from chancerydays.ledger import Ledger, broken_ledger_rule
from chancerydays.names import split_names
from chancerydays.rides import ride_table

# Where set's rows stand, one behind another.
HEAD = 0
FEASTS = 1
REIGNS = 2
LIVES = 3
PERSONS = 4
OFFICES = 5
HOLDS = 6
SEALS = 7
PLACES = 8
WAYS = 9
SEENS = 10


def are_rows(rows):
    """Whether the rows are such as set takes, whatever rules they break."""
    return (
        len(rows[HEAD]) == 2
        and is_by(rows[FEASTS], 4, (0, 1, 2))
        and is_by(rows[REIGNS], 2, ())
        and is_by(rows[LIVES], 2, ())
        and is_by(rows[HOLDS], 4, (0, 1))
        and is_by(rows[SEALS], 2, ())
        and is_by(rows[WAYS], 3, (0, 1, 2))
        and is_by(rows[SEENS], 2, (1,))
        and len(split_names(rows[PERSONS])) == len(rows[LIVES]) // 2
    )


def daybook_of(rows):
    head = rows[HEAD]
    return Daybook(head[0], head[1], in_groups(rows[FEASTS], 4), in_groups(rows[REIGNS], 2))


def ledger_of(rows):
    return Ledger(
        in_groups(rows[LIVES], 2),
        split_names(rows[PERSONS]),
        split_names(rows[OFFICES]),
        in_groups(rows[HOLDS], 4),
        in_groups(rows[SEALS], 2),
        split_names(rows[PLACES]),
        in_groups(rows[WAYS], 3),
        in_groups(rows[SEENS], 2),
    )


def settle(chancery, rows):
    """What set answers; only if nothing is refused does the object change."""
    if not are_rows(rows):
        return [-2]
    daybook = daybook_of(rows)
    broken = broken_daybook_rule(daybook)
    if broken is not None:
        return [-7, 1, broken[0], broken[1]]
    ledger = ledger_of(rows)
    broken = broken_ledger_rule(ledger)
    if broken is not None:
        return [-7, 2, broken[0], broken[1]]
    chancery.daybook = daybook
    chancery.ledger = ledger
    chancery.rides = ride_table(len(ledger.places), ledger.ways)
    return [0]
