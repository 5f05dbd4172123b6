"""Sets of the book's days: one whole number each, whose bit k is 1 if the k-th day is in the set."""

from chancerydays.daybook import days_of, first_day_of, last_day_of


def set_of_days(daybook, days):
    first = first_day_of(daybook)
    return sum([1 << (day - first) for day in days])


def set_of_span(daybook, span):
    """The book's days from the span's first to its last; none if the last is before the first."""
    begin = first_day_of(daybook)
    first = max(span[0], begin) - begin
    last = min(span[1], last_day_of(daybook)) - begin
    if first > last:
        return 0
    return (1 << (last + 1)) - (1 << first)


def set_of_spans(daybook, spans):
    found = 0
    for span in spans:
        found = found | set_of_span(daybook, span)
    return found


def common_days(daybook, day_sets):
    """The book's days that are in all the sets, in order; all days if there are no sets."""
    days = days_of(daybook)
    common = set_of_days(daybook, days)
    for day_set in day_sets:
        common = common & day_set
    return [day for k, day in enumerate(days) if (common >> k) & 1 == 1]


def spans_of(days):
    """The first and the last day of each span of the days, which are in order."""
    ends = []
    for day in days:
        if ends and ends[-1] == day - 1:
            ends[-1] = day
        else:
            ends.extend([day, day])
    return ends


def least_set(day_sets):
    """The numbers of the fewest sets that have no day in common, the first of such; [] if all have one."""
    # Every bit of -1 is 1: as long as nothing is chosen, no day is barred.
    choices = [([], -1)]
    for size in range(len(day_sets)):
        wider = []
        for chosen, common in choices:
            begin = chosen[-1] + 1 if chosen else 0
            for k in range(begin, len(day_sets)):
                shared = common & day_sets[k]
                if shared == 0:
                    return chosen + [k]
                wider.append((chosen + [k], shared))
        choices = wider
    return []
