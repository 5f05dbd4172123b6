"""What the rules of the book of days and those of the books have in common."""


def first_of(places):
    return places[0] if places else None


def first_broken(rules, book):
    """The number, from 1 on, of the first rule that the book breaks, and the place; or None.

    A rule is asked only if all before it hold, so that it may rely on them.
    """
    for number, rule in enumerate(rules, start=1):
        place = rule(book)
        if place is not None:
            return (number, place)
    return None
