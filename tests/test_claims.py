"""The calls can, spans and barred (promise D5): the nearest sightings decide where the court can have been."""

import itertools
import random
import unittest

from tests.support import (
    HUGE, LAST_DAY, NUMBERS, ask, ask_all, barred_call, can_call, flat, highest_call, holder_call, ride_call, set_call,
    spans_call, wrong_answers,
)
from tests.walked import WalkedBooks, days_of_years, least_told, spans_told

# From place 0 to 2 it's 5 over 1, 9 straight; from 2 to 0 it's 7; to 3 and from there no way.
WAYS = ((0, 1, 2), (1, 2, 3), (0, 2, 9), (2, 0, 7))
BOOKS = {
    "lives": [10, 100, 50, 400, 0, LAST_DAY],
    "persons": "Anna Bela Cora",
    "offices": "chancellor notary",
    "holds": [0, 0, 31, 40, 0, 0, 20, 30, 1, 0, 60, 70, 0, 0, 80, 90, 0, 1, 15, 15, 2, 1, 20, LAST_DAY],
    "seals": [5, 95, 100, 100, 0, LAST_DAY],
    "places": "Ghent Bruges Ypres Lille",
    "ways": flat(WAYS),
    "seens": [100, 0, 120, 2],
}
BOOK = set_call(**BOOKS)
COUNTS = (3, 3, 3, 4)
LIVED, HELD, SEALED, SEEN = range(4)


def at(place):
    return (SEEN, place, 0)


class CanTest(unittest.TestCase):
    def assert_can(self, claim, spans, before=BOOK):
        """On the days about these spans the claim can have been on just those within them."""
        about = {0, 1, LAST_DAY - 1, LAST_DAY}
        for first, last in spans:
            about |= {first - 1, first, first + 1, last - 1, last, last + 1}
        days = sorted(day for day in about | set(range(0, 150)) if 0 <= day <= LAST_DAY)
        expected = [[1 if any(first <= day <= last for first, last in spans) else 0] for day in days]
        self.assertEqual(wrong_answers([can_call(day, *claim) for day in days], expected, before), [], claim)

    def test_person_lived(self):
        self.assert_can((LIVED, 0, 0), [(10, 100)])
        self.assert_can((LIVED, 1, 0), [(50, 400)])
        self.assert_can((LIVED, 2, 0), [(0, LAST_DAY)])

    def test_person_held_office(self):
        self.assert_can((HELD, 0, 0), [(20, 40), (80, 90)])
        self.assert_can((HELD, 0, 1), [(15, 15)])
        self.assert_can((HELD, 1, 0), [(60, 70)])
        self.assert_can((HELD, 1, 1), [])
        self.assert_can((HELD, 2, 0), [])
        self.assert_can((HELD, 2, 1), [(20, LAST_DAY)])

    def test_seal_in_use(self):
        self.assert_can((SEALED, 0, 0), [(5, 95)])
        self.assert_can((SEALED, 1, 0), [(100, 100)])
        self.assert_can((SEALED, 2, 0), [(0, LAST_DAY)])

    def test_court_between_two_sightings(self):
        # Seen at place 0 on day 100 and at place 2 on day 120.
        self.assert_can(at(0), [(0, 115), (127, LAST_DAY)])
        self.assert_can(at(1), [(0, 90), (102, 117), (129, LAST_DAY)])
        self.assert_can(at(2), [(0, 93), (105, LAST_DAY)])
        self.assert_can(at(3), [])

    def test_court_on_the_very_day(self):
        said = ask(BOOK, *[can_call(day, *at(place)) for day in (100, 120) for place in range(4)])[1:]
        self.assertEqual(said, [[1], [0], [0], [0], [0], [0], [1], [0]])

    def test_court_that_could_just_ride_over(self):
        # From 0 to 2 it takes 5 days: with just as many, each place on the way has its one day.
        before = set_call(**{**BOOKS, "seens": [100, 0, 105, 2]})
        self.assert_can(at(0), [(0, 100), (112, LAST_DAY)], before)
        self.assert_can(at(1), [(0, 90), (102, 102), (114, LAST_DAY)], before)
        self.assert_can(at(2), [(0, 93), (105, LAST_DAY)], before)
        before = set_call(**{**BOOKS, "seens": [100, 0, 106, 2]})
        self.assert_can(at(0), [(0, 101), (113, LAST_DAY)], before)
        self.assert_can(at(1), [(0, 90), (102, 103), (115, LAST_DAY)], before)
        self.assert_can(at(2), [(0, 93), (105, LAST_DAY)], before)

    def test_court_that_rides_out_and_back(self):
        # From 0 to 1 it's 2 days, back 10.
        for apart, span in ((11, []), (12, [(102, 102)]), (13, [(102, 103)])):
            before = set_call(**{**BOOKS, "seens": [100, 0, 100 + apart, 0]})
            self.assert_can(at(1), [(0, 90), *span, (102 + apart, LAST_DAY)], before)
            self.assert_can(at(0), [(0, LAST_DAY)], before)

    def test_court_seen_once(self):
        before = set_call(**{**BOOKS, "seens": [100, 1]})
        self.assert_can(at(0), [(0, 98), (110, LAST_DAY)], before)
        self.assert_can(at(1), [(0, LAST_DAY)], before)
        self.assert_can(at(2), [(0, 91), (103, LAST_DAY)], before)
        self.assert_can(at(3), [], before)
        before = set_call(**{**BOOKS, "seens": [100, 3]})
        for place in range(3):
            self.assert_can(at(place), [], before)
        self.assert_can(at(3), [(0, LAST_DAY)], before)

    def test_court_never_seen(self):
        before = set_call(**{**BOOKS, "seens": []})
        for place in range(4):
            self.assert_can(at(place), [(0, LAST_DAY)], before)

    def test_court_seen_at_the_calendars_ends(self):
        before = set_call(**{**BOOKS, "seens": [0, 0]})
        self.assert_can(at(0), [(0, LAST_DAY)], before)
        self.assert_can(at(1), [(2, LAST_DAY)], before)
        before = set_call(**{**BOOKS, "seens": [LAST_DAY, 0]})
        self.assert_can(at(0), [(0, LAST_DAY)], before)
        self.assert_can(at(1), [(0, LAST_DAY - 10)], before)
        before = set_call(**{**BOOKS, "seens": [5, 0]})
        self.assert_can(at(1), [(7, LAST_DAY)], before)
        self.assert_can(at(2), [(10, LAST_DAY)], before)

    def test_the_nearest_sightings_decide(self):
        # Those farther off forbid nothing beyond what the nearest do.
        before = set_call(**{**BOOKS, "seens": [20, 2, 27, 0, 29, 1, 32, 2, 60, 2]})
        self.assert_can(at(0), [(0, 15), (27, 27), (39, 55), (67, LAST_DAY)], before)
        self.assert_can(at(1), [(0, 17), (29, 29), (41, 57), (69, LAST_DAY)], before)
        self.assert_can(at(2), [(0, 20), (32, LAST_DAY)], before)

    def test_what_the_book_of_days_has_is_nothing_to_it(self):
        before = set_call(**BOOKS, head=[1000, 1000])
        self.assert_can((LIVED, 0, 0), [(10, 100)], before)
        self.assert_can(at(1), [(0, 90), (102, 117), (129, LAST_DAY)], before)

    def test_no_right_claim(self):
        for claim in ((), (0,), (0, 0), (0, 0, 0, 0), (0, 0, 0, 0, 0, 0), (4, 0, 0), (-1, 0, 0), (HUGE, 0, 0), (-HUGE, 0, 0)):
            for day in (20, -1):
                self.assertEqual(ask(BOOK, can_call(day, *claim))[1], [-4], claim)
        for kind, count in enumerate(COUNTS):
            for a in (-1, count, HUGE, -HUGE):
                for day in (20, LAST_DAY + 1):
                    self.assertEqual(ask(BOOK, can_call(day, kind, a, 0))[1], [-4], (kind, a))
            for b in (-1, 2 if kind == HELD else 1, HUGE, -HUGE):
                for day in (20, -HUGE):
                    self.assertEqual(ask(BOOK, can_call(day, kind, 0, b))[1], [-4], (kind, b))
            self.assertEqual(ask(BOOK, can_call(20, kind, 0, 1))[1], [0] if kind == HELD else [-4])

    def test_no_day(self):
        for day in (-1, LAST_DAY + 1, HUGE, -HUGE):
            for kind, count in enumerate(COUNTS):
                self.assertEqual(ask(BOOK, can_call(day, kind, count - 1, 0))[1], [-3], (day, kind))

    def test_at_first_no_claim_is_right(self):
        for kind in range(4):
            self.assertEqual(ask(can_call(0, kind, 0, 0), spans_call((kind, 0, 0)), barred_call((kind, 0, 0))), [[-4], [-4, 0], [-4, 0]])


class SpansTest(unittest.TestCase):
    def assert_spans(self, spans, *claims, head=(1, 1), rows=BOOKS):
        said = ask(set_call(**rows, head=head), spans_call(*claims), barred_call(*claims))
        self.assertEqual(said[1], [len(spans), *flat(spans)], claims)
        self.assertEqual(said[2] == [0], len(spans) > 0, claims)

    def test_at_first(self):
        self.assertEqual(ask(spans_call(), barred_call()), [[1, 0, 364], [0]])

    def test_of_no_claims_all_days(self):
        for head in ((1, 1), (1, 2), (1, 3), (3, 5), (4, 4), (1200, 1200), (1199, 1201), (1998, 2000), (1999, 2000), (2000, 2000)):
            days = days_of_years(*head)
            self.assert_spans([(days[0], days[-1])], head=head)
        self.assert_spans([(LAST_DAY - 365, LAST_DAY)], head=(2000, 2000))

    def test_one_claim(self):
        self.assert_spans([(10, 100)], (LIVED, 0, 0))
        self.assert_spans([(20, 40), (80, 90)], (HELD, 0, 0))
        self.assert_spans([(15, 15)], (HELD, 0, 1))
        self.assert_spans([], (HELD, 1, 1))
        self.assert_spans([(100, 100)], (SEALED, 1, 0))
        self.assert_spans([(0, 90), (102, 117), (129, 364)], at(1))
        self.assert_spans([], at(3))

    def test_only_the_books_days(self):
        self.assert_spans([(50, 364)], (LIVED, 1, 0))
        self.assert_spans([(50, 400)], (LIVED, 1, 0), head=(1, 2))
        self.assert_spans([(50, 400)], (LIVED, 1, 0), head=(1, 3))
        self.assert_spans([(365, 400)], (LIVED, 1, 0), head=(2, 2))
        self.assert_spans([], (LIVED, 1, 0), head=(3, 3))
        self.assert_spans([(0, 1094)], (SEALED, 2, 0), head=(1, 3))
        self.assert_spans([(LAST_DAY - 730, LAST_DAY)], (SEALED, 2, 0), head=(1999, 2000))
        self.assert_spans([(0, 93), (105, 729)], at(2), head=(1, 2))

    def test_a_span_at_the_books_edge(self):
        for life, head, spans in (((0, 364), (2, 2), []), ((0, 365), (2, 2), [(365, 365)]), ((729, 800), (2, 2), [(729, 729)]),
                                  ((730, 800), (2, 2), []), ((365, 729), (2, 2), [(365, 729)]), ((400, 400), (2, 2), [(400, 400)])):
            self.assert_spans(spans, (LIVED, 0, 0), head=head, rows={"lives": life, "persons": "Anna"})

    def test_several_claims(self):
        self.assert_spans([(50, 93)], (LIVED, 0, 0), (LIVED, 1, 0), (SEALED, 0, 0), at(2))
        self.assert_spans([(20, 40), (80, 90)], (HELD, 0, 0), (LIVED, 2, 0), at(1), (HELD, 2, 1))
        self.assert_spans([(50, 90), (102, 115), (129, 364)], at(0), at(1), (SEALED, 2, 0), (LIVED, 1, 0))
        self.assert_spans([], (HELD, 0, 0), (HELD, 1, 0))
        self.assert_spans([(100, 100)], (SEALED, 1, 0), at(0))
        self.assert_spans([], (SEALED, 1, 0), at(1))

    def test_eight_claims(self):
        self.assert_spans([(20, 40), (80, 90)], *[(HELD, 0, 0), (LIVED, 0, 0)] * 4)
        self.assert_spans([], *[(HELD, 0, 0)] * 7, (HELD, 1, 0))

    def test_eight_and_nine_claims_in_each_book(self):
        for head in ((1, 1), (1, 2), (1, 3), (4, 4), (1199, 1200), (1201, 1203), (1998, 2000), (2000, 2000)):
            before = set_call(**BOOKS, head=head)
            days = days_of_years(*head)
            claims = [(LIVED, 2, 0), (SEALED, 2, 0)] * 4
            said = ask(before, spans_call(*claims), barred_call(*claims), spans_call(*claims, at(3)), barred_call(*claims, at(3)))
            self.assertEqual(said[1:], [[1, days[0], days[-1]], [0], [-2], [-2]], head)

    def test_each_span_as_long_as_can_be(self):
        # Two holds that meet are one span; one day between them parts them.
        rows = {"lives": [0, 100], "persons": "Anna", "offices": "notary"}
        for holds, spans in (([0, 0, 10, 20, 0, 0, 21, 30], [(10, 30)]), ([0, 0, 21, 30, 0, 0, 10, 20], [(10, 30)]),
                             ([0, 0, 10, 20, 0, 0, 22, 30], [(10, 20), (22, 30)]), ([0, 0, 22, 30, 0, 0, 10, 20], [(10, 20), (22, 30)]),
                             ([0, 0, 12, 12, 0, 0, 10, 10, 0, 0, 11, 11], [(10, 12)])):
            self.assert_spans(spans, (HELD, 0, 0), rows={**rows, "holds": holds})

    def test_a_span_over_the_turn_of_a_year(self):
        before = set_call(head=[3, 5], seals=[NUMBERS[(3, 12, 30)], NUMBERS[(5, 1, 2)]])
        self.assertEqual(ask(before, spans_call((SEALED, 0, 0)))[1], [1, NUMBERS[(3, 12, 30)], NUMBERS[(5, 1, 2)]])

    def test_as_many_spans_as_can_be(self):
        holds = flat([(0, 0, 2 * k, 2 * k) for k in range(64)])
        rows = {"lives": [0, 200], "persons": "Anna", "offices": "notary", "holds": holds}
        self.assert_spans([(2 * k, 2 * k) for k in range(64)], (HELD, 0, 0), rows=rows)
        seens = flat([(10 * k, k % 2) for k in range(64)])
        rows = {"places": "Ghent Bruges", "ways": [0, 1, 6, 1, 0, 7], "seens": seens}
        # It leaves place 0 at last 6 days before it's seen at 1, and is back at the first 7 days after.
        stays = [(20 * k - 3, 20 * k + 4) for k in range(1, 32)]
        self.assert_spans([(0, 4), *stays, (637, 729)], at(0), head=(1, 2), rows=rows)


def missing_one(count):
    """An office for each of the first days, held by one person on all of these but its own."""
    holds = []
    for office in range(count):
        holds += [(0, office, 0, office - 1)] if office > 0 else []
        holds += [(0, office, office + 1, count - 1)] if office < count - 1 else []
    return {"lives": [0, 200], "persons": "Anna", "offices": " ".join("abcdefgh"[:max(count, 1)]), "holds": flat(holds)}


class BarredTest(unittest.TestCase):
    def assert_barred(self, numbers, *claims, before=BOOK):
        said = ask(before, barred_call(*claims), spans_call(*claims))
        self.assertEqual(said[1], [len(numbers), *numbers], claims)
        self.assertEqual(said[2] == [0], len(numbers) > 0, claims)

    def test_some_day_allows_all(self):
        self.assert_barred([])
        self.assert_barred([], (LIVED, 0, 0))
        self.assert_barred([], (LIVED, 0, 0), (LIVED, 1, 0), (SEALED, 1, 0), at(0))
        self.assert_barred([], *[(SEALED, 2, 0)] * 8)

    def test_one(self):
        self.assert_barred([0], at(3))
        self.assert_barred([1], (LIVED, 0, 0), (HELD, 1, 1), at(3))
        self.assert_barred([2], (HELD, 0, 0), (HELD, 1, 0), at(3))
        self.assert_barred([7], *[(LIVED, 0, 0)] * 7, at(3))

    def test_two(self):
        self.assert_barred([0, 1], (HELD, 0, 0), (HELD, 1, 0))
        self.assert_barred([1, 3], (LIVED, 0, 0), (HELD, 0, 0), (LIVED, 0, 0), (HELD, 1, 0))
        self.assert_barred([0, 1], (SEALED, 1, 0), at(1))

    def test_of_several_sets_of_two_the_first(self):
        # 0 with 3, 1 with 2: the one that has 0 comes first.
        seals = set_call(seals=[0, 9, 0, 4, 5, 19, 10, 19])
        self.assert_barred([0, 3], *[(SEALED, k, 0) for k in range(4)], before=seals)
        # 0 with 1, 2 with 3.
        self.assert_barred([0, 1], *[(SEALED, k, 0) for k in (1, 2, 0, 3)], before=seals)
        # 0 with 1 and 2, 1 with 2.
        self.assert_barred([0, 1], (HELD, 0, 1), (HELD, 1, 0), (SEALED, 1, 0))
        # 0 with 2, 1 with 2.
        self.assert_barred([0, 2], (HELD, 0, 0), (HELD, 0, 0), (SEALED, 1, 0))
        self.assert_barred([1, 3], (LIVED, 2, 0), (HELD, 0, 0), (HELD, 0, 0), (SEALED, 1, 0), (SEALED, 1, 0))

    def test_as_many_as_there_are(self):
        for count in range(2, 9):
            before = set_call(**missing_one(count))
            claims = [(HELD, 0, office) for office in range(count)]
            self.assert_barred(range(count), *claims, before=before)
            self.assert_barred([], *claims[1:], before=before)
            self.assert_barred([], *claims[:-1], before=before)
            self.assert_barred(range(count), *claims[::-1], before=before)

    def test_of_several_sets_of_three_the_first(self):
        before = set_call(**missing_one(3))
        a, b, c = [(HELD, 0, office) for office in range(3)]
        self.assert_barred([0, 1, 2], a, b, c, before=before)
        self.assert_barred([0, 1, 3], a, b, b, c, c, before=before)
        self.assert_barred([0, 2, 3], a, a, b, c, before=before)
        self.assert_barred([0, 3, 4], c, c, c, b, a, a, before=before)
        self.assert_barred([1, 3, 5], (LIVED, 0, 0), a, a, b, a, c, c, c, before=before)

    def test_fewer_go_before_those_that_come_first(self):
        before = set_call(**missing_one(4), seals=[0, 1, 2, 3, 3, 3])
        a, b, c, d = [(HELD, 0, office) for office in range(4)]
        early, late, last = [(SEALED, seal, 0) for seal in range(3)]
        self.assert_barred([0, 1, 2, 3], a, b, c, d, before=before)
        self.assert_barred([0, 1, 4], a, b, c, d, early, before=before)
        self.assert_barred([2, 3, 4], a, b, c, d, late, before=before)
        self.assert_barred([4, 5], a, b, c, d, early, late, before=before)
        self.assert_barred([3, 5], a, b, c, d, late, last, before=before)
        self.assert_barred([3, 5], a, b, c, d, early, last, before=before)

    def test_only_the_books_days_count(self):
        claims = ((LIVED, 1, 0), (SEALED, 2, 0))
        self.assert_barred([], *claims, before=set_call(**BOOKS, head=[2, 2]))
        self.assert_barred([0], *claims, before=set_call(**BOOKS, head=[3, 3]))
        self.assert_barred([0], *claims, before=set_call(**BOOKS, head=[1998, 2000]))


class RefusalTest(unittest.TestCase):
    def assert_refused(self, said, numbers, before=BOOK):
        for call in (spans_call, barred_call):
            self.assertEqual(ask(before, call(numbers))[1], said, numbers)

    def test_not_by_threes(self):
        for count in (1, 2, 4, 5, 7, 23, 25, 26, 28, 4000):
            self.assert_refused([-2], [0] * count)
            self.assert_refused([-2], [9] * count)

    def test_numbers_below_0(self):
        for place in range(3):
            for number in (-1, -HUGE):
                claim = [0, 0, 0]
                claim[place] = number
                self.assert_refused([-2], claim)
                self.assert_refused([-2], [0, 0, 0, *claim, 0, 0, 0])
                self.assert_refused([-2], [9, 9, 9, *claim])

    def test_more_than_eight(self):
        self.assert_refused([-2], [0, 0, 0] * 9)
        self.assert_refused([-2], [9, 0, 0] * 9)
        self.assert_refused([-2], [9, 0, 0] + [0, 0, 0] * 8)
        self.assert_refused([-2], [0, 0, 0] * 1333)
        self.assert_refused([-4, 0], [9, 0, 0] * 8)

    def test_the_first_claim_that_is_not_right(self):
        for count in range(8):
            self.assert_refused([-4, count], [0, 0, 0] * count + [4, 0, 0])
            self.assert_refused([-4, count], [0, 0, 0] * count + [0, 3, 0] * (8 - count))
            self.assert_refused([-4, count], [3, 3, 0] * count + [0, 0, 1] + [0, 0, 0] * (7 - count))

    def test_claims_that_are_not_right(self):
        for claim in ((4, 0, 0), (HUGE, 0, 0), (0, 3, 0), (0, 0, 1), (1, 3, 0), (1, 0, 2), (1, HUGE, 0), (1, 0, HUGE), (2, 3, 0), (2, 0, 1),
                      (3, 4, 0), (3, 0, 1), (3, HUGE, 0)):
            self.assert_refused([-4, 1], [0, 0, 0, *claim])

    def test_what_was_there_before_a_refused_set(self):
        claims = [(LIVED, 0, 0), (HELD, 1, 0), (SEALED, 1, 0), at(1)]
        calls = [spans_call(), can_call(110, *at(1)), can_call(110, *at(0)), spans_call(*claims), barred_call(*claims)]
        calls += [spans_call(claim) for claim in claims]
        refused = (set_call(head=[]), set_call(head=[1, 4]), set_call(head=[5, 5], places="bad"),
                   set_call(places="Ghent", seens=[5, 0, 5, 0]))
        for call in refused:
            self.assertEqual(ask(BOOK, call, *calls)[2:], ask(BOOK, *calls)[1:])
            self.assertEqual(ask(call, *calls)[1:], ask(*calls))
        self.assertEqual(ask(*calls)[:5], [[1, 0, 364], [-4], [-4], [-4, 0], [-4, 0]])


class Draw:
    """Books drawn by chance that break no rule, with much of what they tell on the book's days."""

    def __init__(self, source):
        self.source = source
        first = source.choice((1, 1, 4, 1199, 1998))
        self.head = (first, first + source.randint(0, 2))
        self.days = days_of_years(*self.head)
        self.lives = [self.span(0, 700) for k in range(3)]
        self.holds = []
        for k in range(12):
            self.add_hold()
        self.seals = [self.span(0, 500) for k in range(3)]
        pairs = list(itertools.permutations(range(5), 2))
        self.ways = [(i, j, source.randint(1, 60)) for i, j in source.sample(pairs, source.randint(5, 20))]
        self.seens = []
        self.books = WalkedBooks(self.lives, self.holds, self.seals, 5, self.ways, self.seens)
        for k in range(source.choice((0, 1, 2, 6))):
            self.add_seen()

    def span(self, least, most):
        first = max(0, self.source.randint(self.days[0] - 100, self.days[-1]))
        return (first, min(LAST_DAY, first + self.source.randint(least, most)))

    def add_hold(self):
        person = self.source.randrange(3)
        office = self.source.randrange(4)
        first = self.source.randint(*self.lives[person])
        last = min(self.lives[person][1], first + self.source.randint(0, 100))
        if not any(office == hold[1] and first <= hold[3] and hold[2] <= last for hold in self.holds):
            self.holds.append((person, office, first, last))

    def add_seen(self):
        place = self.source.randrange(5)
        day = max(0, self.days[0] + self.source.randint(-50, 100))
        if self.seens:
            before = self.seens[-1]
            ride = self.books.rides.get((before[1], place))
            if ride is None:
                return
            day = before[0] + max(1, ride) + self.source.choice((0, 1, self.source.randint(0, 90)))
        if day <= LAST_DAY:
            self.seens.append((day, place))

    def set_call(self):
        return set_call(
            head=self.head, lives=flat(self.lives), persons="Anna Bela Cora", offices="a b c d", holds=flat(self.holds),
            seals=flat(self.seals), places="A B C D E", ways=flat(self.ways), seens=flat(self.seens),
        )

    def claim(self):
        kind = self.source.choice((0, 1, 2, 3, 3, 3))
        return (kind, self.source.randrange(5 if kind == 3 else 3), self.source.randrange(4) if kind == 1 else 0)


class ChanceTest(unittest.TestCase):
    def test_drawn_claims(self):
        source = random.Random(18)
        sizes = []
        for count in range(150):
            draw = Draw(source)
            calls = []
            expected = []
            for k in range(8):
                claims = [draw.claim() for place in range(source.choice((0, 1, 2, 3, 5, 8)))]
                allowed = [{day for day in draw.days if draw.books.can(day, claim)} for claim in claims]
                days = set(draw.days).intersection(*allowed)
                calls += [spans_call(*claims), barred_call(*claims)]
                expected += [spans_told(days), least_told(draw.days, allowed)]
                sizes.append(expected[-1][0])
            self.assertEqual(wrong_answers(calls, expected, draw.set_call()), [])
        for size in range(3):
            self.assertGreater(sizes.count(size), 20, size)

    def test_drawn_sets_of_many(self):
        """One person in five offices, each held on most of a few days."""
        source = random.Random(17)
        sizes = []
        for count in range(500):
            share = source.choice((0.4, 0.6, 0.75))
            held = [{day for day in range(10) if source.random() < share} for office in range(5)]
            holds = [(0, office, day, day) for office, days in enumerate(held) for day in days]
            before = set_call(lives=[0, 9], persons="Anna", offices="a b c d e", holds=flat(holds))
            offices = [source.randrange(5) for k in range(source.randint(5, 8))]
            claims = [(HELD, 0, office) for office in offices]
            allowed = [held[office] for office in offices]
            told = least_told(range(365), allowed)
            self.assertEqual(ask(before, barred_call(*claims))[1], told, (held, offices))
            self.assertEqual(ask(before, spans_call(*claims))[1], spans_told(set.intersection(*allowed)))
            sizes.append(told[0])
        for size in (0, 2, 3, 4):
            self.assertGreater(sizes.count(size), 5, size)

    def test_drawn_days(self):
        source = random.Random(16)
        for count in range(100):
            draw = Draw(source)
            edges = [day + step for seen in draw.seens for day in seen[:1] for step in (-1, 0, 1)]
            days = edges + [source.choice(draw.days) for k in range(20)] + [0, LAST_DAY]
            calls = []
            expected = []
            for day in [day for day in days if 0 <= day <= LAST_DAY]:
                claims = [draw.claim() for k in range(3)] + [at(place) for place in range(5)]
                calls += [can_call(day, *claim) for claim in claims]
                expected += [[1 if draw.books.can(day, claim) else 0] for claim in claims]
            self.assertEqual(wrong_answers(calls, expected, draw.set_call()), [])

    def test_drawn_offices_and_rides(self):
        source = random.Random(13)
        for count in range(100):
            draw = Draw(source)
            before = draw.set_call()
            pairs = [(i, j) for i in range(5) for j in range(5)]
            expected = [[draw.books.rides.get(pair, -4)] for pair in pairs]
            self.assertEqual(wrong_answers([ride_call(i, j) for i, j in pairs], expected, before), [])
            days = [day for hold in draw.holds for day in (hold[2] - 1, hold[2], hold[3], hold[3] + 1) if 0 <= day <= LAST_DAY]
            for day in days:
                held = {hold[1]: hold[0] for hold in draw.holds if hold[2] <= day <= hold[3]}
                said = ask_all([holder_call(office, day) for office in range(4)], before)
                self.assertEqual(said, [[held.get(office, -4)] for office in range(4)])
                said = ask_all([highest_call(person, day) for person in range(3)], before)
                self.assertEqual(said, [[min([office for office in held if held[office] == person], default=-4)] for person in range(3)])


if __name__ == "__main__":
    unittest.main()
