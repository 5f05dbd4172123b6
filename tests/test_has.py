"""The call has: the marks of kind 0 to 9, on the days that just have them and just don't."""

import random
import unittest

from tests.support import (
    DAYS, EASTERS, HUGE, LAST_DAY, NUMBERS, ask, ask_all, has_call, set_call, walk_romans, walk_styles, wrong_answers,
)
from tests.walked import beside, days_of_feast

OFFS = (0, -90, 200, 49, -85)
FIXED = ((1, 1), (12, 31), (6, 24), (2, 28), (3, 1), (1, 3), (12, 28))
FEASTS = [number for m, d in FIXED for number in (0, m, d, 0)] + [number for off in OFFS for number in (1, 0, 0, off)]
REIGNS = [NUMBERS[(1200, 2, 29)], NUMBERS[(1209, 3, 5)], 0, LAST_DAY]
BOOK = set_call(head=[1200, 1202], feasts=FEASTS, reigns=REIGNS)
# Days about all edges: the first and the last years, leap years and others.
EDGE_DAYS = [*range(0, 500), *range(NUMBERS[(1199, 12, 1)], NUMBERS[(1201, 2, 1)]), *range(LAST_DAY - 500, LAST_DAY + 1)]


def feast_days(f):
    """The days of a feast of FEASTS, year by year."""
    return days_of_feast(*FEASTS[4 * f:4 * f + 4])


class HasTest(unittest.TestCase):
    def assert_has(self, date, mark, answer, before=BOOK):
        day = date if isinstance(date, int) else NUMBERS[date]
        self.assertEqual(ask(before, has_call(day, *mark))[1], [answer], (date, mark))

    def assert_days(self, mark, days, having):
        """Of the days just those have the mark that are among those that are having it."""
        having = set(having)
        expected = [[1 if day in having else 0] for day in days]
        self.assertEqual(wrong_answers([has_call(day, *mark) for day in days], expected, BOOK), [])


class KindTest(HasTest):
    def test_kind_0_month_and_day(self):
        self.assert_has((1200, 2, 29), (0, 2, 29, 0, 0), 1)
        self.assert_has((1200, 2, 28), (0, 2, 29, 0, 0), 0)
        self.assert_has((1200, 3, 1), (0, 2, 29, 0, 0), 0)
        self.assert_has((1200, 3, 29), (0, 2, 29, 0, 0), 0)
        for mark in ((0, 2, 29, 0, 0), (0, 1, 1, 0, 0), (0, 12, 31, 0, 0), (0, 2, 30, 0, 0), (0, 4, 31, 0, 0)):
            days = [day for day in EDGE_DAYS if DAYS[day][1:3] == mark[1:3]]
            self.assert_days(mark, EDGE_DAYS, days)

    def test_kind_1_roman(self):
        self.assert_has((1200, 5, 13), (1, 5, 2, 0, 3), 1)
        self.assert_has((1200, 12, 14), (1, 1, 0, 0, 19), 1)
        self.assert_has((1200, 12, 31), (1, 1, 0, 0, 2), 1)
        self.assert_has((1200, 12, 31), (1, 12, 0, 0, 2), 0)
        self.assert_has((1200, 2, 28), (1, 3, 0, 0, 3), 1)
        self.assert_has((1201, 2, 28), (1, 3, 0, 0, 3), 0)
        romans = walk_romans()
        calls = []
        expected = []
        for day in EDGE_DAYS:
            month, which, n = romans[day]
            for a, b, x in ((month, which, n), (month, which, n + 1), (month, which, n - 1), (month, (which + 1) % 3, n),
                            (month, (which + 2) % 3, n), (month % 12 + 1, which, n), ((month + 10) % 12 + 1, which, n)):
                calls.append(has_call(day, 1, a, b, 0, x))
                right = 1 <= x <= 19
                expected.append([(1 if (a, b, x) == romans[day] else 0) if right else -4])
        self.assertEqual(wrong_answers(calls, expected, BOOK), [])

    def test_kind_2_weekday(self):
        for weekday in range(7):
            self.assert_days((2, weekday, 0, 0, 0), EDGE_DAYS, [day for day in EDGE_DAYS if DAYS[day][3] == weekday])

    def test_kind_3_style(self):
        for s, years in enumerate(walk_styles()):
            for x in (1, 2, 1199, 1200, 1201, 1999, 2000):
                self.assert_days((3, s, 0, 0, x), EDGE_DAYS, [day for day in EDGE_DAYS if years[day] == x])

    def test_kind_4_indiction(self):
        # Year 1200 has the indiction 1202 mod 15 + 1 = 3.
        self.assert_has((1200, 8, 31), (4, 0, 0, 0, 3), 1)
        self.assert_has((1200, 9, 1), (4, 0, 0, 0, 3), 0)
        self.assert_has((1200, 9, 1), (4, 0, 0, 0, 4), 1)
        self.assert_has((1199, 9, 1), (4, 0, 0, 0, 3), 1)
        self.assert_has((1199, 8, 31), (4, 0, 0, 0, 3), 0)
        self.assert_has((1200, 1, 1), (4, 1, 0, 0, 3), 1)
        self.assert_has((1200, 12, 31), (4, 1, 0, 0, 3), 1)
        self.assert_has((1199, 12, 31), (4, 1, 0, 0, 3), 0)
        self.assert_has((1201, 1, 1), (4, 1, 0, 0, 3), 0)
        # 1197 closes a round of fifteen with 15, 1198 begins one with 1.
        self.assert_has((1197, 5, 5), (4, 1, 0, 0, 15), 1)
        self.assert_has((1198, 5, 5), (4, 1, 0, 0, 1), 1)
        # Year 2001, by style 5, begins in year 2000.
        self.assert_has(LAST_DAY, (4, 0, 0, 0, 2003 % 15 + 1), 1)
        self.assert_has(LAST_DAY, (4, 1, 0, 0, 2002 % 15 + 1), 1)
        self.assert_has(0, (4, 0, 0, 0, 4), 1)
        styles = walk_styles()
        for a, years in ((0, styles[5]), (1, styles[0])):
            for x in range(1, 16):
                days = [day for day in EDGE_DAYS if (years[day] + 2) % 15 + 1 == x]
                self.assert_days((4, a, 0, 0, x), EDGE_DAYS, days)

    def test_kind_5_days_after_a_feast(self):
        for f in range(len(FIXED) + len(OFFS)):
            days = feast_days(f)
            for x in (0, 1, -1, 7, 364, 365, 366, -365, -366, 400, -400):
                self.assert_days((5, f, 0, 0, x), EDGE_DAYS, [day + x for day in days])

    def test_kind_5_at_the_ends(self):
        # Feast 0 is the 1st of month 1: there's none behind the last day, nor one before the first.
        self.assert_has(LAST_DAY, (5, 0, 0, 0, -1), 0)
        self.assert_has(LAST_DAY, (5, 0, 0, 0, 365), 1)
        self.assert_has(0, (5, 0, 0, 0, 0), 1)
        self.assert_has(0, (5, 0, 0, 0, 366), 0)
        # Feast 1 is the 31st of month 12.
        self.assert_has(0, (5, 1, 0, 0, 1), 0)
        self.assert_has(LAST_DAY, (5, 1, 0, 0, 0), 1)
        # Feast 8 of year 1, 90 days before Easter, is no day.
        self.assert_has(10, (5, 8, 0, 0, 15), 0)

    def test_kind_5_feast_in_the_year_before(self):
        y = next(y for y in range(1201, 2001) if DAYS[EASTERS[y] - 90][0] == y - 1)
        self.assert_has(EASTERS[y] - 90, (5, 8, 0, 0, 0), 1)
        self.assert_has(EASTERS[y] - 90 + 7, (5, 8, 0, 0, 7), 1)
        self.assert_has(EASTERS[y] - 89, (5, 8, 0, 0, 0), 0)
        # Of year 2001 there is no feast.
        self.assert_days((5, 8, 0, 0, 0), range(LAST_DAY - 100, LAST_DAY + 1), [])

    def test_kind_6_weekday_beside_a_feast(self):
        for f in range(len(FIXED) + len(OFFS)):
            days = feast_days(f)
            for weekday in range(7):
                for c, step in ((0, -1), (1, 1)):
                    having = [beside(day, weekday, step) for day in days]
                    self.assert_days((6, f, weekday, c, 0), EDGE_DAYS, having)

    def test_kind_6_own_day_is_not_counted(self):
        easter = EASTERS[1200]
        feast = len(FIXED)
        self.assert_has(easter, (6, feast, 6, 0, 0), 0)
        self.assert_has(easter, (6, feast, 6, 1, 0), 0)
        self.assert_has(easter - 7, (6, feast, 6, 0, 0), 1)
        self.assert_has(easter + 7, (6, feast, 6, 1, 0), 1)
        self.assert_has(easter - 14, (6, feast, 6, 0, 0), 0)
        self.assert_has(easter + 14, (6, feast, 6, 1, 0), 0)
        self.assert_has(easter - 7, (6, feast, 6, 1, 0), 0)
        self.assert_has(easter - 1, (6, feast, 5, 0, 0), 1)
        self.assert_has(easter - 6, (6, feast, 0, 0, 0), 1)
        self.assert_has(easter + 1, (6, feast, 0, 1, 0), 1)
        self.assert_has(easter + 1, (6, feast, 1, 1, 0), 0)

    def test_kind_6_beyond_the_ends(self):
        # The 1st of month 1 of year 2001 would be a Sunday, and is no day.
        self.assert_has(LAST_DAY, (6, 0, 5, 0, 0), 0)
        self.assert_has(0, (6, 1, 5, 1, 0), 0)

    def test_kind_7_year_of_a_reign(self):
        for x in range(1, 12):
            first = (1199 + x, 2, 29) if (1199 + x) % 4 == 0 else (1199 + x, 3, 1)
            after = (1200 + x, 2, 29) if (1200 + x) % 4 == 0 else (1200 + x, 3, 1)
            days = range(NUMBERS[(1199, 1, 1)], NUMBERS[(1212, 1, 1)])
            having = [day for day in range(NUMBERS[first], NUMBERS[after]) if day <= REIGNS[1]]
            self.assert_days((7, 0, 0, 0, x), days, having)

    def test_kind_7_over_all_days(self):
        self.assert_has(LAST_DAY, (7, 1, 0, 0, 2000), 1)
        self.assert_has(LAST_DAY, (7, 1, 0, 0, 1999), 0)
        self.assert_has(0, (7, 1, 0, 0, 1), 1)
        self.assert_has(0, (7, 0, 0, 0, 1), 0)

    def test_kind_8_golden_number(self):
        for y in (1, 17, 18, 19, 20, 1200, 1201, 1995, 2000):
            for x in range(1, 20):
                answer = 1 if y % 19 + 1 == x else 0
                self.assert_has((y, 1, 1), (8, 0, 0, 0, x), answer)
                self.assert_has((y, 12, 31), (8, 0, 0, 0, x), answer)
        self.assert_has((1200, 6, 1), (8, 0, 0, 0, 4), 1)
        self.assert_has((19, 6, 1), (8, 0, 0, 0, 1), 1)
        self.assert_has((18, 6, 1), (8, 0, 0, 0, 19), 1)

    def test_kind_9_first_sunday(self):
        for y in (*range(1, 40), 1200, 1201, 1202, *range(1990, 2001)):
            sunday = next(d for d in range(1, 8) if DAYS[NUMBERS[(y, 1, d)]][3] == 6)
            for a in range(7):
                answer = 1 if sunday == a + 1 else 0
                self.assert_has((y, 1, 1), (9, a, 0, 0, 0), answer)
                self.assert_has((y, 12, 31), (9, a, 0, 0, 0), answer)

    def test_feasts_of_years_outside_the_book(self):
        before = set_call(head=[1, 1], feasts=[0, 6, 24, 0])
        self.assert_has((1999, 6, 24), (5, 0, 0, 0, 0), 1, before)
        self.assert_has((1999, 6, 25), (5, 0, 0, 0, 1), 1, before)


RIGHT = (
    (0, 1, 1, 0, 0), (0, 12, 31, 0, 0), (0, 2, 31, 0, 0),
    (1, 1, 0, 0, 1), (1, 12, 2, 0, 19), (1, 1, 1, 0, 19),
    (2, 0, 0, 0, 0), (2, 6, 0, 0, 0),
    (3, 0, 0, 0, 1), (3, 5, 0, 0, 2000),
    (4, 0, 0, 0, 1), (4, 1, 0, 0, 15),
    (5, 0, 0, 0, -400), (5, 11, 0, 0, 400),
    (6, 0, 0, 0, 0), (6, 11, 6, 1, 0),
    (7, 0, 0, 0, 1), (7, 1, 0, 0, 2000),
    (8, 0, 0, 0, 1), (8, 0, 0, 0, 19),
    (9, 0, 0, 0, 0), (9, 6, 0, 0, 0),
)
# Of each kind what a, b, c, x may be, from and to.
BOUNDS = (
    ((1, 12), (1, 31), (0, 0), (0, 0)),
    ((1, 12), (0, 2), (0, 0), (1, 19)),
    ((0, 6), (0, 0), (0, 0), (0, 0)),
    ((0, 5), (0, 0), (0, 0), (1, 2000)),
    ((0, 1), (0, 0), (0, 0), (1, 15)),
    ((0, 11), (0, 0), (0, 0), (-400, 400)),
    ((0, 11), (0, 6), (0, 1), (0, 0)),
    ((0, 1), (0, 0), (0, 0), (1, 2000)),
    ((0, 0), (0, 0), (0, 0), (1, 19)),
    ((0, 6), (0, 0), (0, 0), (0, 0)),
)


class RefusalTest(HasTest):
    def test_right_marks(self):
        for mark in RIGHT:
            said = ask(BOOK, has_call(5, *mark))[1]
            self.assertIn(said, ([0], [1]), mark)

    def test_each_number_just_within_and_just_out(self):
        for kind, bounds in enumerate(BOUNDS):
            least = [bound[0] for bound in bounds]
            for place, (low, high) in enumerate(bounds):
                for number in (low, high, low - 1, high + 1, HUGE, -HUGE):
                    mark = [kind] + least[:place] + [number] + least[place + 1:]
                    said = ask(BOOK, has_call(0, *mark))[1]
                    self.assertEqual(said in ([0], [1]), low <= number <= high, mark)
                    self.assertIn(said, ([0], [1], [-4]))

    def test_no_such_kind(self):
        for kind in (-1, 10, 11, HUGE, -HUGE):
            self.assert_has(0, (kind, 0, 0, 0, 0), -4)
            self.assert_has(0, (kind, 1, 1, 0, 0), -4)

    def test_other_lengths(self):
        for mark in ((), (2,), (2, 5), (2, 5, 0, 0), (2, 5, 0, 0, 0, 0), (2, 5, 0, 0, 0, 2, 5, 0, 0, 0), (10,) * 4):
            self.assert_has(0, mark, -4)
        self.assert_has(0, (2, 5, 0, 0, 0), 1)

    def test_no_day(self):
        for day in (-1, LAST_DAY + 1, HUGE, -HUGE):
            for mark in RIGHT:
                self.assert_has(day, mark, -3)

    def test_wrong_mark_comes_before_no_day(self):
        for day in (-1, LAST_DAY + 1):
            self.assert_has(day, (2, 7, 0, 0, 0), -4)
            self.assert_has(day, (), -4)

    def test_feasts_and_reigns_are_the_objects(self):
        self.assertEqual(ask(has_call(0, 5, 0, 0, 0, 0), has_call(0, 6, 0, 0, 0, 0), has_call(0, 7, 0, 0, 0, 1)), [[-4]] * 3)
        one = set_call(feasts=[0, 1, 1, 0], reigns=[0, 0])
        self.assertEqual(
            ask(one, has_call(0, 5, 0, 0, 0, 0), has_call(0, 5, 1, 0, 0, 0), has_call(0, 6, 1, 0, 0, 0),
                has_call(0, 7, 0, 0, 0, 1), has_call(0, 7, 1, 0, 0, 1)),
            [[0], [1], [-4], [-4], [1], [-4]],
        )


class ChanceTest(HasTest):
    def test_right_by_chance(self):
        source = random.Random(20)
        calls = []
        expected = []
        for count in range(4000):
            kind = source.randrange(10)
            mark = [kind]
            right = True
            for low, high in BOUNDS[kind]:
                wrong = source.random() < 0.05
                number = source.choice((low - 1, high + 1)) if wrong else source.randint(low, high)
                right = right and low <= number <= high
                mark.append(number)
            calls.append(has_call(source.randint(0, LAST_DAY), *mark))
            expected.append(right)
        for call, answer, right in zip(calls, ask_all(calls, BOOK), expected):
            self.assertIn(answer, ([0], [1]) if right else ([-4],), call)


if __name__ == "__main__":
    unittest.main()
