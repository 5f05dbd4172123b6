"""The object that a list of calls is about."""

from chancerydays.daybook import Daybook
from chancerydays.ledger import empty_ledger


class Chancery:
    """A book of days and books: at first of the one year 1, with nothing else.

    The rides are those over the books' ways, kept so that they are reckoned once a set.
    """

    def __init__(self):
        self.daybook = Daybook(1, 1, [], [])
        self.ledger = empty_ledger()
        self.rides = []
