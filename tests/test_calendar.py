"""The calls day, tell, easter, roman: promises D1 and D2."""

import unittest

from tests.support import (
    DAYS, EASTERS, HUGE, LAST_DAY, LEAP_YEARS, NUMBERS, ask, day_call, easter_call, months_of, roman_call, tell_call,
    walk_romans, wrong_answers,
)

NO_DAYS = (-1, LAST_DAY + 1, -HUGE, HUGE)
NO_YEARS = (0, -1, 2001, -4, 2004, HUGE, -HUGE)


class DayTest(unittest.TestCase):
    def test_first_and_last_day(self):
        self.assertEqual(ask(day_call(1, 1, 1), day_call(2000, 12, 31)), [[0], [LAST_DAY]])

    def test_some_days(self):
        self.assertEqual(ask(day_call(1, 1, 2)), [[1]])
        self.assertEqual(ask(day_call(1, 2, 1)), [[31]])
        self.assertEqual(ask(day_call(1, 3, 1)), [[59]])
        self.assertEqual(ask(day_call(2, 1, 1)), [[365]])
        self.assertEqual(ask(day_call(4, 2, 29)), [[1154]])
        self.assertEqual(ask(day_call(4, 12, 31)), [[1460]])
        self.assertEqual(ask(day_call(5, 1, 1)), [[1461]])

    def test_every_date_has_its_number(self):
        wrong = wrong_answers([day_call(*date[:3]) for date in DAYS], [[number] for number in range(LAST_DAY + 1)])
        self.assertEqual(wrong, [])

    def test_leap_day_of_every_year(self):
        for y in range(1, 2001):
            said = ask(day_call(y, 2, 28), day_call(y, 2, 29), day_call(y, 3, 1))
            if y in LEAP_YEARS:
                self.assertEqual([said[0][0] + 1, said[0][0] + 2], [said[1][0], said[2][0]])
            else:
                self.assertEqual(said[1], [-3])
                self.assertEqual(said[0][0] + 1, said[2][0])

    def test_centuries_are_leap_years(self):
        for y in (100, 200, 300, 1700, 1800, 1900, 2000):
            self.assertEqual(ask(day_call(y, 2, 29)), [[NUMBERS[(y, 2, 29)]]])

    def test_last_days_of_months(self):
        for y in (1, 2, 3, 4, 100, 1999, 2000):
            for m, length in enumerate(months_of(y), start=1):
                self.assertEqual(
                    ask(day_call(y, m, length), day_call(y, m, length + 1)), [[NUMBERS[(y, m, length)]], [-3]]
                )

    def test_no_such_day(self):
        for wrong in NO_YEARS:
            self.assertEqual(ask(day_call(wrong, 1, 1)), [[-3]], wrong)
        for wrong in (0, -1, 13, 14, -11, HUGE, -HUGE):
            self.assertEqual(ask(day_call(1200, wrong, 1)), [[-3]], wrong)
        for wrong in (0, -1, 32, HUGE, -HUGE):
            self.assertEqual(ask(day_call(1200, 1, wrong)), [[-3]], wrong)
        self.assertEqual(ask(day_call(HUGE, HUGE, HUGE), day_call(0, 0, 0)), [[-3], [-3]])
        self.assertEqual(ask(day_call(1200, 2, 30), day_call(1201, 2, 29)), [[-3], [-3]])


class TellTest(unittest.TestCase):
    def test_first_and_last_day(self):
        self.assertEqual(ask(tell_call(0), tell_call(LAST_DAY)), [[0, 1, 1, 1, 5], [0, 2000, 12, 31, 5]])

    def test_known_weekdays(self):
        hastings = NUMBERS[(1066, 10, 14)]
        runnymede = NUMBERS[(1215, 6, 15)]
        self.assertEqual(ask(tell_call(hastings), tell_call(runnymede)), [[0, 1066, 10, 14, 5], [0, 1215, 6, 15, 0]])

    def test_every_day(self):
        wrong = wrong_answers([tell_call(number) for number in range(LAST_DAY + 1)], [[0, *date] for date in DAYS])
        self.assertEqual(wrong, [])

    def test_no_day(self):
        for wrong in NO_DAYS:
            self.assertEqual(ask(tell_call(wrong)), [[-3]], wrong)


class EasterTest(unittest.TestCase):
    def test_known_easters(self):
        known = (
            (1016, 4, 1), (1066, 4, 16), (1199, 4, 18), (1300, 4, 10), (1415, 3, 31), (1431, 4, 1), (1483, 3, 30),
            (1492, 4, 22), (1983, 4, 25), (1999, 3, 29), (2000, 4, 17),
        )
        for date in known:
            self.assertEqual(ask(easter_call(date[0])), [[NUMBERS[date]]], date)

    def test_every_year(self):
        wrong = wrong_answers([easter_call(y) for y in range(1, 2001)], [[EASTERS[y]] for y in range(1, 2001)])
        self.assertEqual(wrong, [])

    def test_is_a_sunday_within_its_bounds(self):
        dates = []
        for y in range(1, 2001):
            year, m, d, weekday = DAYS[ask(easter_call(y))[0][0]]
            self.assertEqual((year, weekday), (y, 6))
            dates.append((m, d))
        self.assertEqual((min(dates), max(dates)), ((3, 22), (4, 25)))

    def test_moon_on_a_sunday_gives_the_next_sunday(self):
        moons = [NUMBERS[(y, 3, 21)] + (19 * (y % 19) + 15) % 30 for y in range(1, 2001)]
        on_sundays = [(y, moon) for y, moon in enumerate(moons, start=1) if DAYS[moon][3] == 6]
        self.assertGreater(len(on_sundays), 100)
        for y, moon in on_sundays:
            self.assertEqual(ask(easter_call(y)), [[moon + 7]])

    def test_no_year(self):
        for wrong in NO_YEARS:
            self.assertEqual(ask(easter_call(wrong)), [[-3]], wrong)


class RomanTest(unittest.TestCase):
    def assert_roman(self, date, told):
        self.assertEqual(ask(roman_call(NUMBERS[date])), [[0, *told]], date)

    def test_month_of_early_nones(self):
        self.assert_roman((1201, 1, 1), (1, 0, 1))
        self.assert_roman((1201, 1, 2), (1, 1, 4))
        self.assert_roman((1201, 1, 4), (1, 1, 2))
        self.assert_roman((1201, 1, 5), (1, 1, 1))
        self.assert_roman((1201, 1, 6), (1, 2, 8))
        self.assert_roman((1201, 1, 12), (1, 2, 2))
        self.assert_roman((1201, 1, 13), (1, 2, 1))
        self.assert_roman((1201, 1, 14), (2, 0, 19))
        self.assert_roman((1201, 1, 31), (2, 0, 2))

    def test_month_of_late_nones(self):
        for m in (3, 5, 7, 10):
            self.assert_roman((1201, m, 1), (m, 0, 1))
            self.assert_roman((1201, m, 2), (m, 1, 6))
            self.assert_roman((1201, m, 6), (m, 1, 2))
            self.assert_roman((1201, m, 7), (m, 1, 1))
            self.assert_roman((1201, m, 8), (m, 2, 8))
            self.assert_roman((1201, m, 13), (m, 2, 3))
            self.assert_roman((1201, m, 15), (m, 2, 1))
            self.assert_roman((1201, m, 16), (m + 1, 0, 17))
            self.assert_roman((1201, m, 31), (m + 1, 0, 2))

    def test_end_of_month_2(self):
        self.assert_roman((1201, 2, 14), (3, 0, 16))
        self.assert_roman((1201, 2, 28), (3, 0, 2))
        self.assert_roman((1200, 2, 14), (3, 0, 17))
        self.assert_roman((1200, 2, 28), (3, 0, 3))
        self.assert_roman((1200, 2, 29), (3, 0, 2))

    def test_end_of_year(self):
        self.assert_roman((1201, 12, 13), (12, 2, 1))
        self.assert_roman((1201, 12, 14), (1, 0, 19))
        self.assert_roman((1201, 12, 31), (1, 0, 2))
        self.assert_roman((1202, 1, 1), (1, 0, 1))
        self.assert_roman((2000, 12, 31), (1, 0, 2))
        self.assert_roman((1, 1, 1), (1, 0, 1))

    def test_every_day(self):
        calls = [roman_call(number) for number in range(LAST_DAY + 1)]
        self.assertEqual(wrong_answers(calls, [[0, *told] for told in walk_romans()]), [])

    def test_no_day(self):
        for wrong in NO_DAYS:
            self.assertEqual(ask(roman_call(wrong)), [[-3]], wrong)


if __name__ == "__main__":
    unittest.main()
