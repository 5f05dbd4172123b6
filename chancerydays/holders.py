"""Who holds which office on a day."""

from chancerydays.rules import first_of


def is_held_on(hold, day):
    return hold[2] <= day <= hold[3]


def holder_on(ledger, office, day):
    """The person who holds the office on the day, None if nobody does."""
    # The books' rules see to it that there's never more than one.
    return first_of([hold[0] for hold in ledger.holds if hold[1] == office and is_held_on(hold, day)])


def highest_on(ledger, person, day):
    """The highest office that the person holds on the day, None if none."""
    held = [hold[1] for hold in ledger.holds if hold[0] == person and is_held_on(hold, day)]
    return min(held, default=None)
