"""The calls feast and year."""

import unittest

from tests.support import (
    DAYS, EASTERS, HUGE, LAST_DAY, NUMBERS, ask, feast_call, set_call, wrong_answers, year_call,
)
from tests.walked import reign_years


class FeastTest(unittest.TestCase):
    def test_fixed_feast_in_every_year(self):
        before = set_call(feasts=[0, 6, 24, 0, 0, 2, 28, 0, 0, 12, 31, 0])
        for f, (m, d) in enumerate(((6, 24), (2, 28), (12, 31))):
            expected = [[NUMBERS[(y, m, d)]] for y in range(1, 2001)]
            self.assertEqual(wrong_answers([feast_call(f, y) for y in range(1, 2001)], expected, before), [])

    def test_moving_feast_in_every_year(self):
        offs = (0, -1, 1, -46, 49, 200, -90)
        before = set_call(feasts=[number for off in offs for number in (1, 0, 0, off)])
        for f, off in enumerate(offs):
            expected = [[EASTERS[y] + off] for y in range(2, 2001)]
            self.assertEqual(wrong_answers([feast_call(f, y) for y in range(2, 2001)], expected, before), [])

    def test_feast_in_another_year(self):
        y = next(y for y in range(2, 2001) if DAYS[EASTERS[y] - 90][0] == y - 1)
        said = ask(set_call(feasts=[1, 0, 0, -90]), feast_call(0, y))
        self.assertEqual(said[1], [EASTERS[y] - 90])

    def test_feast_on_no_day(self):
        # Easter of year 1 is day 85.
        feasts = [1, 0, 0, -85, 1, 0, 0, -86, 1, 0, 0, -90]
        said = ask(set_call(feasts=feasts), feast_call(0, 1), feast_call(1, 1), feast_call(2, 1), feast_call(2, 2))
        self.assertEqual(said[1:], [[0], [-4], [-4], [EASTERS[2] - 90]])

    def test_years_outside_the_book(self):
        said = ask(set_call(head=[1200, 1201], feasts=[0, 1, 1, 0]), feast_call(0, 1), feast_call(0, 2000))
        self.assertEqual(said[1:], [[0], [NUMBERS[(2000, 1, 1)]]])

    def test_no_feast_no_year(self):
        before = set_call(feasts=[0, 1, 1, 0, 1, 0, 0, -90])
        for f, y in ((2, 1), (-1, 1), (HUGE, 1), (-HUGE, 1), (0, 0), (0, 2001), (0, -1), (0, HUGE), (0, -HUGE), (1, 0)):
            self.assertEqual(ask(before, feast_call(f, y)), [[0], [-3]], (f, y))

    def test_at_first_there_is_none(self):
        self.assertEqual(ask(feast_call(0, 1), feast_call(-1, 1)), [[-3], [-3]])


class YearTest(unittest.TestCase):
    def assert_reign(self, first, last):
        before = set_call(reigns=[first, last])
        days = range(max(0, first - 400), min(LAST_DAY, last + 400) + 1)
        years = reign_years(first, last)
        expected = [[years.get(day, 0)] for day in days]
        self.assertEqual(wrong_answers([year_call(0, day) for day in days], expected, before), [], (first, last))

    def test_an_ordinary_reign(self):
        reign = [NUMBERS[(1154, 12, 19)], NUMBERS[(1189, 7, 6)]]
        said = ask(
            set_call(reigns=reign), *[year_call(0, NUMBERS[date]) for date in (
                (1154, 12, 18), (1154, 12, 19), (1155, 12, 18), (1155, 12, 19), (1188, 12, 18), (1188, 12, 19),
                (1189, 7, 6), (1189, 7, 7),
            )]
        )
        self.assertEqual(said[1:], [[0], [1], [1], [2], [34], [35], [35], [0]])

    def test_reign_from_the_leap_day(self):
        reign = [NUMBERS[(1200, 2, 29)], NUMBERS[(1208, 3, 5)]]
        dates = (
            (1200, 2, 28), (1200, 2, 29), (1201, 2, 28), (1201, 3, 1), (1202, 2, 28), (1202, 3, 1), (1204, 2, 28),
            (1204, 2, 29), (1204, 3, 1), (1205, 2, 28), (1205, 3, 1), (1208, 2, 28), (1208, 2, 29), (1208, 3, 5),
            (1208, 3, 6),
        )
        said = ask(set_call(reigns=reign), *[year_call(0, NUMBERS[date]) for date in dates])
        years = [0, 1, 1, 2, 2, 3, 4, 5, 5, 5, 6, 8, 9, 9, 0]
        self.assertEqual(said[1:], [[year] for year in years])

    def test_every_day_of_some_reigns(self):
        for first in ((1200, 2, 28), (1200, 2, 29), (1200, 3, 1), (1201, 2, 28), (1201, 3, 1), (1203, 12, 31),
                      (1204, 1, 1), (1205, 7, 15), (1200, 1, 29), (1203, 5, 29), (1201, 3, 31)):
            day = NUMBERS[first]
            for length in (0, 1, 364, 365, 366, 4000):
                self.assert_reign(day, day + length)

    def test_reign_over_all_days(self):
        said = ask(
            set_call(reigns=[0, LAST_DAY]), year_call(0, 0), year_call(0, 364), year_call(0, 365),
            year_call(0, LAST_DAY - 366), year_call(0, LAST_DAY - 365), year_call(0, LAST_DAY),
        )
        self.assertEqual(said[1:], [[1], [1], [2], [1999], [2000], [2000]])

    def test_reigns_at_the_ends(self):
        self.assert_reign(0, 0)
        self.assert_reign(LAST_DAY, LAST_DAY)
        self.assert_reign(LAST_DAY - 3000, LAST_DAY)

    def test_several_reigns(self):
        said = ask(set_call(reigns=[10, 20, 15, 400]), year_call(0, 14), year_call(1, 14), year_call(0, 15),
                   year_call(1, 15), year_call(0, 21), year_call(1, 379), year_call(1, 380))
        self.assertEqual(said[1:], [[1], [0], [1], [1], [0], [1], [2]])

    def test_no_reign_no_day(self):
        before = set_call(reigns=[0, LAST_DAY])
        for r, day in ((1, 0), (-1, 0), (HUGE, 0), (-HUGE, 0), (0, -1), (0, LAST_DAY + 1), (0, HUGE), (0, -HUGE),
                       (1, -1)):
            self.assertEqual(ask(before, year_call(r, day)), [[0], [-3]], (r, day))

    def test_at_first_there_is_none(self):
        self.assertEqual(ask(year_call(0, 0)), [[-3]])


if __name__ == "__main__":
    unittest.main()
