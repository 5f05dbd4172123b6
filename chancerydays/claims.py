"""Claims: when one is right, and in which spans the books allow it."""

from chancerydays.days import LAST_DAY

CLAIM_LENGTH = 3
LIVED = 0
HELD = 1
IN_USE = 2
AT_PLACE = 3


def is_right_claim(ledger, claim):
    if len(claim) != CLAIM_LENGTH:
        return False
    kind = claim[0]
    if kind < LIVED or kind > AT_PLACE:
        return False
    counts = (len(ledger.persons), len(ledger.persons), len(ledger.seals), len(ledger.places))
    offices = len(ledger.offices) if kind == HELD else 1
    return 0 <= claim[1] < counts[kind] and 0 <= claim[2] < offices


def stays_of_court(ledger, rides, place):
    """The spans in which the court can have been at the place; those that end before they begin are none."""
    stays = []
    begin = 0
    for seen in ledger.seens:
        stays.append((begin, seen[0] - rides[place][seen[1]]))
        begin = seen[0] + rides[seen[1]][place]
    stays.append((begin, LAST_DAY))
    return stays


def spans_of_claim(ledger, rides, claim):
    """The spans in which the claim, which is right, can have been; those that end before they begin are none."""
    kind = claim[0]
    a = claim[1]
    if kind == LIVED:
        return [ledger.lives[a]]
    if kind == HELD:
        return [(hold[2], hold[3]) for hold in ledger.holds if hold[0] == a and hold[1] == claim[2]]
    if kind == IN_USE:
        return [ledger.seals[a]]
    return stays_of_court(ledger, rides, a)


def can_have_been(ledger, rides, claim, day):
    return any([span[0] <= day <= span[1] for span in spans_of_claim(ledger, rides, claim)])
