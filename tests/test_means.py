"""The calls means and clash (promise D4): a date means the days that have all its marks; else one least set clashes."""

import itertools
import random
import unittest

from tests.support import (
    DAYS, EASTERS, HUGE, LAST_DAY, NUMBERS, ask, ask_all, clash_call, flat, has_call, means_call, set_call, wrong_answers,
)
from tests.walked import WalkedDays, days_of_years, least_told

# Books of one, two and three years: the first and the last years, leap years and others.
HEADS = (
    (1, 1), (1, 2), (1, 3), (2, 4), (3, 5), (4, 4), (4, 6), (5, 7), (1199, 1200), (1200, 1200), (1200, 1202), (1201, 1203),
    (1900, 1900), (1998, 2000), (1999, 1999), (1999, 2000), (2000, 2000),
)
FEASTS = ((0, 6, 24, 0), (1, 0, 0, 0), (1, 0, 0, 49), (1, 0, 0, -90), (0, 1, 1, 0), (0, 12, 31, 0), (1, 0, 0, 200))
REIGN = (NUMBERS[(1199, 4, 6)], NUMBERS[(1216, 10, 19)])
BOOK = set_call(head=[1200, 1202], feasts=flat(FEASTS), reigns=REIGN)
TUESDAY = (2, 1, 0, 0, 0)
MAY_13 = (0, 5, 13, 0, 0)
NEVER = (0, 2, 30, 0, 0)
BAD = (2, 7, 0, 0, 0)


def year_mark(y):
    return (3, 0, 0, 0, y)


def weekday_mark(date):
    return (2, DAYS[NUMBERS[date]][3], 0, 0, 0)


class DateTest(unittest.TestCase):
    def assert_means(self, dates, *marks, before=BOOK):
        days = [NUMBERS[date] for date in dates]
        self.assertEqual(ask(before, means_call(*marks), clash_call(*marks))[1], [len(days)] + days, marks)

    def assert_clash(self, numbers, *marks, before=BOOK):
        """The least set has these numbers; then no day is meant, else some."""
        said = ask(before, clash_call(*marks), means_call(*marks))
        self.assertEqual(said[1], [len(numbers)] + list(numbers), marks)
        self.assertEqual(said[2][0] == 0, len(numbers) > 0, marks)


class MeansTest(DateTest):
    def test_at_first(self):
        self.assertEqual(ask(means_call()), [[365] + list(range(365))])
        self.assertEqual(ask(means_call((0, 12, 31, 0, 0))), [[1, 364]])
        self.assertEqual(ask(means_call((2, 5, 0, 0, 0), (0, 1, 1, 0, 0))), [[1, 0]])
        self.assertEqual(ask(means_call((3, 0, 0, 0, 2))), [[0]])
        self.assertEqual(ask(means_call((5, 0, 0, 0, 0))), [[-4, 0]])

    def test_of_no_marks_all_days(self):
        for head in HEADS:
            days = days_of_years(*head)
            self.assertEqual(ask(set_call(head=head), means_call())[1], [len(days)] + days, head)
        for head, count in (((1, 1), 365), ((4, 4), 366), ((1, 2), 730), ((3, 4), 731), ((1, 3), 1095), ((1998, 2000), 1096)):
            said = ask(set_call(head=head), means_call())[1]
            self.assertEqual((said[0], len(said)), (count, count + 1), head)
        self.assertEqual(ask(set_call(head=[2000, 2000]), means_call())[1][-1], LAST_DAY)

    def test_a_charters_date(self):
        # The third day before the ides of May, a Tuesday, in a year of the reign, by an indiction.
        day = NUMBERS[(1203, 5, 13)]
        before = set_call(head=[1202, 1204], reigns=REIGN)
        self.assertEqual(DAYS[day][3], 1)
        marks = ((1, 5, 2, 0, 3), TUESDAY, (7, 0, 0, 0, 5), (4, 0, 0, 0, 6))
        self.assert_means([(1203, 5, 13)], *marks, before=before)
        for count in range(1, 5):
            for some in itertools.permutations(marks, count):
                said = ask(before, means_call(*some), clash_call(*some))[1:]
                self.assertIn(day, said[0][1:])
                self.assertEqual(said[1], [0])

    def test_each_kind(self):
        self.assert_means([(1200, 5, 13), (1201, 5, 13), (1202, 5, 13)], MAY_13)
        self.assert_means([(1200, 2, 29)], (0, 2, 29, 0, 0))
        self.assert_means([], NEVER)
        self.assert_means([(1200, 12, 31), (1201, 12, 31), (1202, 12, 31)], (1, 1, 0, 0, 2))
        self.assert_means([(1200, 2, 28)], (1, 3, 0, 0, 3), (0, 2, 28, 0, 0))
        self.assert_means([(1202, 12, 31)], TUESDAY, (0, 12, 31, 0, 0))
        self.assert_means([(1200, 12, d) for d in range(25, 32)], (3, 3, 0, 0, 1201), (3, 0, 0, 0, 1200))
        self.assert_means([(1202, 9, 1)], (4, 0, 0, 0, 6), (0, 9, 1, 0, 0))
        self.assert_means([(1200, 6, 27), (1201, 6, 27), (1202, 6, 27)], (5, 0, 0, 0, 3))
        self.assert_means([DAYS[EASTERS[y] + 7][:3] for y in (1200, 1201, 1202)], (6, 1, 6, 1, 0))
        self.assert_means([(1201, 4, 6)], (7, 0, 0, 0, 3), (0, 4, 6, 0, 0))
        self.assert_means([(1201, 6, 24)], (8, 0, 0, 0, 1201 % 19 + 1), (5, 0, 0, 0, 0))
        self.assert_means([(1202, 6, 24)], (9, 5, 0, 0, 0), (5, 0, 0, 0, 0))

    def test_only_the_books_days_count(self):
        self.assert_means([], year_mark(1199))
        self.assert_means([], year_mark(1203))
        for y in (1200, 1201, 1202):
            days = days_of_years(y, y)
            self.assertEqual(ask(BOOK, means_call(year_mark(y)))[1], [len(days)] + days)
        # A feast of a year outside the book counts on days in it.
        self.assert_means([(1200, 1, 10), (1201, 1, 10), (1202, 1, 10)], (5, 5, 0, 0, 10))
        self.assert_means([(1200, 12, 21), (1201, 12, 21), (1202, 12, 21)], (5, 4, 0, 0, -11))

    def test_at_the_calendars_ends(self):
        first = set_call(head=[1, 2], feasts=flat(FEASTS))
        self.assert_means([(2, 1, 10)], (5, 5, 0, 0, 10), before=first)
        self.assert_means([(1, 12, 31), (2, 12, 31)], (5, 4, 0, 0, -1), before=first)
        last = set_call(head=[1999, 2000], feasts=flat(FEASTS))
        self.assert_means([(1999, 1, 10), (2000, 1, 10)], (5, 5, 0, 0, 10), before=last)
        self.assert_means([(1999, 12, 31)], (5, 4, 0, 0, -1), before=last)
        self.assert_means([(2000, 12, d) for d in range(25, 32)], (3, 0, 0, 0, 2000), (7, 0, 0, 0, 1),
                          before=set_call(head=[1999, 2000], reigns=[NUMBERS[(2000, 12, 25)], LAST_DAY]))

    def test_eight_marks(self):
        self.assert_means([(1201, 5, 13)], *[year_mark(1201), MAY_13] * 4)
        self.assert_means([], *[MAY_13] * 7, NEVER)
        self.assert_means([(1201, 5, 13)], *[MAY_13] * 7, year_mark(1201))

    def test_eight_and_nine_marks_in_each_book(self):
        for head in HEADS:
            before = set_call(head=head)
            sundays = [day for day in days_of_years(*head) if DAYS[day][3] == 6]
            marks = [(2, 6, 0, 0, 0)] * 8
            said = ask(before, means_call(*marks), clash_call(*marks), means_call(*marks, NEVER), clash_call(*marks, NEVER))
            self.assertEqual(said[1:], [[len(sundays)] + sundays, [0], [-2], [-2]], head)

    def test_the_order_of_the_marks_is_nothing(self):
        for marks in itertools.permutations((MAY_13, year_mark(1202), weekday_mark((1202, 5, 13)))):
            self.assert_means([(1202, 5, 13)], *marks)


class ClashTest(DateTest):
    def test_at_first(self):
        self.assertEqual(ask(clash_call()), [[0]])
        self.assertEqual(ask(clash_call(year_mark(1))), [[0]])
        self.assertEqual(ask(clash_call(year_mark(1), year_mark(2))), [[1, 1]])

    def test_some_day_has_all(self):
        self.assert_clash([])
        self.assert_clash([], MAY_13)
        self.assert_clash([], MAY_13, year_mark(1201), weekday_mark((1201, 5, 13)))
        self.assert_clash([], *[MAY_13] * 8)

    def test_one_that_no_day_has(self):
        self.assert_clash([0], NEVER)
        self.assert_clash([2], MAY_13, TUESDAY, NEVER)
        self.assert_clash([1], MAY_13, year_mark(1203), year_mark(1200))
        # Of several such the first, even where two others clash before it.
        self.assert_clash([1], MAY_13, NEVER, NEVER)
        self.assert_clash([3], year_mark(1200), year_mark(1201), MAY_13, NEVER)
        self.assert_clash([7], *[MAY_13] * 7, NEVER)
        self.assert_clash([0], *[NEVER] * 8)

    def test_two(self):
        self.assert_clash([0, 1], year_mark(1200), year_mark(1201))
        self.assert_clash([0, 2], year_mark(1200), MAY_13, year_mark(1201))
        self.assert_clash([1, 2], MAY_13, year_mark(1200), year_mark(1201))
        self.assert_clash([6, 7], *[MAY_13] * 6, year_mark(1200), year_mark(1201))

    def test_of_several_sets_of_two_the_first(self):
        # 0 with 3, 1 with 2: the one that has 0 comes first.
        self.assert_clash([0, 3], year_mark(1200), MAY_13, (0, 5, 14, 0, 0), year_mark(1201))
        # 0 with 1, 2 with 3.
        self.assert_clash([0, 1], year_mark(1200), year_mark(1201), MAY_13, (0, 5, 14, 0, 0))
        # 1 with 2, 1 with 3, 2 with 3.
        self.assert_clash([1, 2], MAY_13, year_mark(1200), year_mark(1201), year_mark(1202))
        # 0 with 2, 0 with 3, 1 with 2 and 1 with 3.
        self.assert_clash([0, 2], year_mark(1200), year_mark(1200), year_mark(1201), year_mark(1201))
        # 0 with 4, 1 with 4, but 2 with 3 too.
        self.assert_clash([0, 4], MAY_13, MAY_13, year_mark(1200), year_mark(1201), (0, 6, 1, 0, 0))

    def test_two_go_before_three_that_come_first(self):
        three = (MAY_13, weekday_mark((1201, 5, 13)), year_mark(1200))
        self.assert_clash([0, 1, 2], *three)
        self.assert_clash([2, 4], *three, (8, 0, 0, 0, 1200 % 19 + 1), year_mark(1202))
        self.assert_clash([3], *three, NEVER)

    def test_three(self):
        marks = (MAY_13, weekday_mark((1201, 5, 13)), year_mark(1200))
        for some in itertools.permutations(marks):
            self.assert_clash([0, 1, 2], *some)
        # Of several sets of three: 0, 1, 3 and 0, 2, 3 and, the other year told twice, those with 4.
        self.assert_clash([0, 1, 3], marks[0], marks[1], marks[1], marks[2], marks[2])
        self.assert_clash([0, 2, 3], marks[0], marks[0], marks[1], marks[2])
        # The year's indiction and the year itself: each with the two between them.
        self.assert_clash([0, 1, 2], (4, 1, 0, 0, 3), *marks)

    def test_only_the_books_days_count(self):
        marks = (MAY_13, weekday_mark((1203, 5, 13)))
        self.assert_clash([0, 1], *marks)
        self.assert_clash([], *marks, before=set_call(head=[1201, 1203]))
        self.assert_clash([0], (0, 2, 29, 0, 0), before=set_call(head=[1201, 1203]))
        self.assert_clash([], (0, 2, 29, 0, 0), before=set_call(head=[1202, 1204]))


class RefusalTest(unittest.TestCase):
    def assert_refused(self, said, numbers, before=BOOK):
        for call in (means_call, clash_call):
            self.assertEqual(ask(before, call(numbers))[1], said, numbers)

    def test_not_by_fives(self):
        for count in (1, 2, 3, 4, 6, 9, 11, 39, 41, 4000 - 1):
            self.assert_refused([-2], [0] * count)
            self.assert_refused([-2], (MAY_13 * 1000)[:count])

    def test_numbers_below_0(self):
        for place in range(4):
            for number in (-1, -HUGE):
                for mark in (MAY_13, TUESDAY, (5, 0, 0, 0, 3), (6, 0, 1, 1, 0)):
                    changed = list(mark)
                    changed[place] = number
                    self.assert_refused([-2], changed)
                    self.assert_refused([-2], [*MAY_13, *changed, *TUESDAY])
                    self.assert_refused([-2], [*BAD, *changed])

    def test_x_below_0_is_right_of_kind_5_alone(self):
        for kind, a in ((0, 1), (1, 1), (2, 0), (3, 0), (4, 0), (6, 0), (7, 0), (8, 0), (9, 0)):
            for x in (-1, -HUGE):
                self.assert_refused([-4, 0], (kind, a, 1 if kind in (0, 1) else 0, 0, x))
        self.assertEqual(ask(BOOK, means_call((5, 0, 0, 0, -400)))[1][0], 3)
        self.assert_refused([-4, 0], (5, 0, 0, 0, -401))

    def test_more_than_eight(self):
        self.assert_refused([-2], MAY_13 * 9)
        self.assert_refused([-2], BAD * 9)
        self.assert_refused([-2], BAD + MAY_13 * 8)
        self.assert_refused([-2], MAY_13 * 800)
        self.assert_refused([-4, 0], BAD * 8)

    def test_the_first_mark_that_is_not_right(self):
        self.assert_refused([-4, 0], BAD)
        for count in range(8):
            self.assert_refused([-4, count], MAY_13 * count + BAD)
            self.assert_refused([-4, count], MAY_13 * count + BAD * (8 - count))
            self.assert_refused([-4, count], NEVER * count + BAD + MAY_13 * (7 - count))

    def test_marks_that_are_not_right(self):
        for mark in ((10, 0, 0, 0, 0), (HUGE, 0, 0, 0, 0), (0, 0, 1, 0, 0), (0, 13, 1, 0, 0), (0, 1, 32, 0, 0), (0, 1, 1, 1, 0),
                     (1, 1, 3, 0, 1), (1, 1, 0, 0, 20), (2, 0, 0, 0, 1), (3, 6, 0, 0, 1), (3, 0, 0, 0, 2001), (4, 2, 0, 0, 1),
                     (4, 0, 0, 0, 16), (5, len(FEASTS), 0, 0, 0), (6, 0, 7, 0, 0), (6, 0, 0, 2, 0), (7, 1, 0, 0, 1), (8, 0, 0, 0, 0),
                     (8, 0, 0, 0, 20), (9, 7, 0, 0, 0)):
            self.assert_refused([-4, 1], [*MAY_13, *mark])

    def test_right_by_the_book_that_is_there(self):
        for mark in ((5, 0, 0, 0, 0), (6, 0, 0, 0, 0), (7, 0, 0, 0, 1)):
            for call in (means_call, clash_call):
                self.assertEqual(ask(call(TUESDAY, mark)), [[-4, 1]])
                self.assertEqual(ask(BOOK, set_call(head=[1200, 1202]), call(TUESDAY, mark))[2], [-4, 1])

    def test_what_was_there_before_a_refused_set(self):
        calls = [means_call(), means_call((5, 0, 0, 0, 0)), clash_call(year_mark(1200), year_mark(1201)), clash_call(year_mark(1))]
        refused = (set_call(head=[1, 1, 1]), set_call(head=[1, 4]), set_call(head=[1, 1], offices="Bad"))
        for call in refused:
            self.assertEqual(ask(BOOK, call, *calls)[2:], ask(BOOK, *calls)[1:])
            self.assertEqual(ask(call, *calls)[1:], ask(*calls))
        self.assertEqual(ask(*calls)[1:], [[-4, 0], [1, 0], [0]])


def drawn_mark(source, head):
    """A right mark that some days about the book are likely to have."""
    kind = source.randrange(10)
    y = source.randint(max(1, head[0] - 1), min(2000, head[1] + 1))
    weekday = source.randrange(7)
    feast = source.randrange(len(FEASTS))
    month = source.randint(1, 12)
    marks = (
        (0, month, source.randint(1, 31), 0, 0),
        (1, month, source.randrange(3), 0, source.randint(1, 19)),
        (2, weekday, 0, 0, 0),
        (3, source.randrange(6), 0, 0, y),
        (4, source.randrange(2), 0, 0, (y + 2) % 15 + 1),
        (5, feast, 0, 0, source.choice((source.randint(-400, 400), 0, 7, -7))),
        (6, feast, weekday, source.randrange(2), 0),
        (7, source.randrange(3), 0, 0, source.randint(1, 3)),
        (8, 0, 0, 0, y % 19 + 1),
        (9, next(a for a in range(7) if DAYS[NUMBERS[(y, 1, a + 1)]][3] == 6), 0, 0, 0),
    )
    return marks[kind]


def narrow_marks(source, days, count):
    """Marks of one date and one year, and the date's weekday in maybe another year."""
    y, m, d, weekday = DAYS[source.choice(days)]
    other = DAYS[NUMBERS[(source.choice((DAYS[days[0]][0], DAYS[days[-1]][0])), m, min(d, 28))]][3]
    marks = ((0, m, d, 0, 0), (2, source.choice((weekday, other)), 0, 0, 0), (3, 0, 0, 0, y), (8, 0, 0, 0, y % 19 + 1))
    return [source.choice(marks) for k in range(count)]


class ChanceTest(unittest.TestCase):
    def drawn_book(self, source):
        head = source.choice(HEADS)
        first = NUMBERS[(head[0], 1, 1)]
        reigns = []
        for k in range(3):
            begin = max(0, min(LAST_DAY, first + source.randint(-500, 700)))
            reigns.append((begin, min(LAST_DAY, begin + source.randint(0, 1500))))
        return head, reigns

    def test_drawn_dates(self):
        source = random.Random(4)
        sizes = []
        for count in range(150):
            head, reigns = self.drawn_book(source)
            walked = WalkedDays(head, FEASTS, reigns)
            before = set_call(head=head, feasts=flat(FEASTS), reigns=flat(reigns))
            calls = []
            expected = []
            for k in range(16):
                marks = [drawn_mark(source, head) for place in range(source.choice((0, 1, 2, 3, 8)))]
                if k % 2 == 0:
                    marks = marks[:2] + narrow_marks(source, walked.days, source.randint(2, 6))
                    source.shuffle(marks)
                having = [walked.having(mark) for mark in marks]
                days = sorted(set(walked.days).intersection(*having))
                calls += [means_call(*marks), clash_call(*marks)]
                expected += [[len(days)] + days, least_told(walked.days, having)]
                sizes.append(expected[-1][0])
            self.assertEqual(wrong_answers(calls, expected, before), [])
        for size in range(4):
            self.assertGreater(sizes.count(size), 20, size)

    def test_means_says_the_same_as_has(self):
        source = random.Random(5)
        for head in HEADS:
            reigns = self.drawn_book(source)[1]
            before = set_call(head=head, feasts=flat(FEASTS), reigns=flat(reigns))
            for kind in range(10):
                mark = next(mark for mark in iter(lambda: drawn_mark(source, head), None) if mark[0] == kind)
                days = days_of_years(*head)
                having = [day for day, said in zip(days, ask_all([has_call(day, *mark) for day in days], before)) if said == [1]]
                self.assertEqual(ask(before, means_call(mark))[1], [len(having)] + having, (head, mark))


if __name__ == "__main__":
    unittest.main()
