"""The call style: promise D3."""

import unittest

from tests.support import DAYS, EASTERS, HUGE, LAST_DAY, NUMBERS, ask, style_call, walk_styles, wrong_answers


class StyleTest(unittest.TestCase):
    def assert_turn(self, s, date, year):
        """By style s the year begins on the date, and the day before it lies in the year before."""
        day = NUMBERS[date]
        self.assertEqual(ask(style_call(day - 1, s), style_call(day, s)), [[year - 1], [year]], (s, date))

    def test_first_and_last_day_of_a_year(self):
        for x in (2, 3, 4, 5, 1199, 1200, 1201, 1999, 2000):
            self.assert_turn(0, (x, 1, 1), x)
            self.assert_turn(1, (x, 3, 25), x)
            self.assert_turn(2, (x - 1, 3, 25), x)
            self.assert_turn(3, (x - 1, 12, 25), x)
            self.assert_turn(4, DAYS[EASTERS[x]][:3], x)
            self.assert_turn(5, (x - 1, 9, 1), x)

    def test_years_0_and_2001(self):
        self.assert_turn(1, (1, 3, 25), 1)
        self.assert_turn(4, DAYS[EASTERS[1]][:3], 1)
        self.assert_turn(2, (2000, 3, 25), 2001)
        self.assert_turn(3, (2000, 12, 25), 2001)
        self.assert_turn(5, (2000, 9, 1), 2001)
        self.assertEqual([ask(style_call(0, s))[0][0] for s in range(6)], [1, 0, 1, 1, 0, 1])
        self.assertEqual([ask(style_call(LAST_DAY, s))[0][0] for s in range(6)], [2000, 2000, 2001, 2001, 2000, 2001])

    def test_every_day_by_every_style(self):
        for s, years in enumerate(walk_styles()):
            calls = [style_call(day, s) for day in range(LAST_DAY + 1)]
            self.assertEqual(wrong_answers(calls, [[year] for year in years]), [])

    def test_no_day(self):
        for wrong in (-1, LAST_DAY + 1, HUGE, -HUGE):
            for s in range(6):
                self.assertEqual(ask(style_call(wrong, s)), [[-3]])

    def test_no_style(self):
        for wrong in (-1, 6, HUGE, -HUGE):
            self.assertEqual(ask(style_call(0, wrong), style_call(-1, wrong)), [[-3], [-3]])


if __name__ == "__main__":
    unittest.main()
