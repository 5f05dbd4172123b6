"""The calls find, holder, highest and ride; an office has one holder on a day (promise D6)."""

import unittest

from tests.support import (
    HUGE, LAST_DAY, ask, can_call, find_call, flat, highest_call, holder_call, ride_call, set_call, wrong_answers,
)
from tests.walked import walked_rides

LONGEST = "Q" + "q" * 30
PERSONS = "Anna Bela Cora Ann " + LONGEST
# Office 0 is the highest.
HOLDS = ((0, 1, 10, 20), (1, 1, 21, 30), (0, 0, 15, 25), (2, 2, 0, LAST_DAY), (0, 3, 12, 40), (1, 1, 32, 32), (4, 0, 5, 14))
BOOKS = {
    "lives": [0, 100, 20, 200, 0, LAST_DAY, 0, 0, 5, 14],
    "persons": PERSONS,
    "offices": "chancellor notary scribe almoner",
    "holds": flat(HOLDS),
    "places": "Ghent Bruges Ypres Anna",
    "ways": [0, 1, 2, 1, 2, 3, 0, 2, 9, 2, 0, 7],
}
BOOK = set_call(**BOOKS)
NO_DAYS = (-1, LAST_DAY + 1, HUGE, -HUGE)
NO_NUMBERS = (-1, 5, HUGE, -HUGE)


class BookTest(unittest.TestCase):
    def assert_said(self, said, call, before=BOOK):
        self.assertEqual(ask(before, call)[1], said, call)


class FindTest(BookTest):
    def test_each_name(self):
        for what, names in enumerate((PERSONS, BOOKS["offices"], BOOKS["places"])):
            for number, name in enumerate(names.split()):
                self.assert_said([number], find_call(what, name))

    def test_of_each_kind_its_own_names(self):
        self.assert_said([0], find_call(0, "Anna"))
        self.assert_said([-3], find_call(1, "Anna"))
        self.assert_said([3], find_call(2, "Anna"))
        self.assert_said([-3], find_call(0, "notary"))
        self.assert_said([-3], find_call(0, "Ghent"))
        self.assert_said([-3], find_call(1, "Ghent"))
        self.assert_said([-3], find_call(2, "Bela"))

    def test_none_has_it(self):
        for what in (0, 1, 2):
            for name in ("", " ", "An", "Annas", "anna", "ANNA", "Anna ", " Anna", "Anna Bela", "nna", "Dora", "notar", "Notary",
                         LONGEST + "q", [0], [255], [0] * 4000, [65, 110, 110, 97, 0], [97 + 32]):
                self.assert_said([-3], find_call(what, name))

    def test_what_is_none_of_these(self):
        for what in (-1, 3, 4, HUGE, -HUGE, -3):
            for name in ("Anna", "notary", "Ghent", ""):
                self.assert_said([-3], find_call(what, name))

    def test_at_first_none_has_a_name(self):
        for what in (0, 1, 2):
            self.assertEqual(ask(find_call(what, "Anna"), find_call(what, "")), [[-3], [-3]])

    def test_the_names_of_the_last_set(self):
        said = ask(BOOK, set_call(places="Ypres Lille"), find_call(2, "Ypres"), find_call(2, "Ghent"), find_call(0, "Anna"))
        self.assertEqual(said[2:], [[0], [-3], [-3]])
        said = ask(BOOK, set_call(places="ypres"), find_call(2, "Ypres"), find_call(2, "Ghent"), find_call(0, "Anna"))
        self.assertEqual(said[1:], [[-7, 2, 10, 0], [2], [0], [0]])

    def test_as_many_names_as_there_may_be(self):
        persons = [chr(65 + k % 26) + "x" * (1 + k // 26) for k in range(32)]
        offices = ["o" * (k + 1) for k in range(16)]
        places = ["P" + "o" * k for k in range(16)]
        before = set_call(lives=[0, 1] * 32, persons=" ".join(persons), offices=" ".join(offices), places=" ".join(places))
        for what, names in enumerate((persons, offices, places)):
            expected = [[k] for k in range(len(names))]
            self.assertEqual(wrong_answers([find_call(what, name) for name in names], expected, before), [])


class HolderTest(BookTest):
    def test_every_day_about_the_holds(self):
        days = [*range(0, 50), LAST_DAY]
        for office in range(4):
            held = {day: hold[0] for hold in HOLDS if hold[1] == office for day in days if hold[2] <= day <= hold[3]}
            expected = [[held.get(day, -4)] for day in days]
            self.assertEqual(wrong_answers([holder_call(office, day) for day in days], expected, BOOK), [])

    def test_the_edges_of_a_hold(self):
        for office, day, said in ((1, 9, -4), (1, 10, 0), (1, 20, 0), (1, 21, 1), (1, 30, 1), (1, 31, -4), (1, 32, 1), (1, 33, -4),
                                  (0, 4, -4), (0, 5, 4), (0, 14, 4), (0, 15, 0), (0, 25, 0), (0, 26, -4), (2, 0, 2), (2, LAST_DAY, 2)):
            self.assert_said([said], holder_call(office, day))

    def test_no_office_no_day(self):
        for office in (-1, 4, HUGE, -HUGE):
            self.assert_said([-3], holder_call(office, 15))
        for day in NO_DAYS:
            for office in (0, 1, 2):
                self.assert_said([-3], holder_call(office, day))
            self.assert_said([-3], holder_call(9, day))

    def test_at_first_there_is_none(self):
        self.assertEqual(ask(holder_call(0, 0), holder_call(-1, 0)), [[-3], [-3]])
        self.assertEqual(ask(set_call(offices="notary"), holder_call(0, 0), holder_call(1, 0))[1:], [[-4], [-3]])

    def test_days_outside_the_book(self):
        before = set_call(**BOOKS, head=[1000, 1000])
        self.assert_said([0], holder_call(1, 10), before)
        self.assert_said([1], highest_call(0, 10), before)

    def test_sixty_four_holds(self):
        holds = [(k % 2, 0, 10 * k, 10 * k + 8) for k in range(64)]
        before = set_call(lives=[0, 1000] * 2, persons="Anna Bela", offices="notary", holds=flat(holds[::-1]))
        expected = [[day // 10 % 2 if day % 10 != 9 else -4] for day in range(640)]
        self.assertEqual(wrong_answers([holder_call(0, day) for day in range(640)], expected, before), [])


class HighestTest(BookTest):
    def test_every_day_about_the_holds(self):
        days = [*range(0, 50), LAST_DAY]
        for person in range(5):
            expected = []
            for day in days:
                offices = [hold[1] for hold in HOLDS if hold[0] == person and hold[2] <= day <= hold[3]]
                expected.append([min(offices) if offices else -4])
            self.assertEqual(wrong_answers([highest_call(person, day) for day in days], expected, BOOK), [])

    def test_the_least_number_is_the_highest(self):
        for day, said in ((9, -4), (10, 1), (11, 1), (12, 1), (14, 1), (15, 0), (20, 0), (25, 0), (26, 3), (40, 3), (41, -4)):
            self.assert_said([said], highest_call(0, day))
        holds = [0, 2, 5, 5, 0, 1, 5, 5, 0, 3, 5, 5]
        self.assert_said([1], highest_call(0, 5), set_call(lives=[0, 9], persons="Anna", offices="a b c d", holds=holds))

    def test_whom_nobody_gave_an_office(self):
        self.assert_said([-4], highest_call(3, 0))
        self.assert_said([-4], highest_call(1, 20))
        # A person who lives no more is a person still.
        self.assert_said([-4], highest_call(3, LAST_DAY))

    def test_no_person_no_day(self):
        for person in NO_NUMBERS:
            self.assert_said([-3], highest_call(person, 15))
        for day in NO_DAYS:
            for person in (0, 2, 3):
                self.assert_said([-3], highest_call(person, day))
            self.assert_said([-3], highest_call(9, day))

    def test_at_first_there_is_none(self):
        self.assertEqual(ask(highest_call(0, 0), highest_call(-1, 0)), [[-3], [-3]])


class RideTest(BookTest):
    def test_the_least_sums(self):
        # From place 0 to 2 it's 5 over 1, 9 straight; back only straight; to 3 and from there no way.
        rides = ((0, 2, 5, -4), (10, 0, 3, -4), (7, 9, 0, -4), (-4, -4, -4, 0))
        for i in range(4):
            for j in range(4):
                self.assert_said([rides[i][j]], ride_call(i, j))

    def test_no_place(self):
        for number in (-1, 4, HUGE, -HUGE):
            self.assert_said([-3], ride_call(number, 0))
            self.assert_said([-3], ride_call(0, number))
            self.assert_said([-3], ride_call(3, number))
            self.assert_said([-3], ride_call(number, 3))
            self.assert_said([-3], ride_call(number, number))

    def test_at_first_there_is_none(self):
        self.assertEqual(ask(ride_call(0, 0), ride_call(-1, -1)), [[-3], [-3]])

    def test_one_place_alone(self):
        self.assertEqual(ask(set_call(places="Ghent"), ride_call(0, 0), ride_call(0, 1), ride_call(1, 0))[1:], [[0], [-3], [-3]])

    def test_over_many_places(self):
        places = " ".join("P" + "o" * k for k in range(16))
        chain = [number for k in range(15) for number in (k, k + 1, 1000)]
        before = set_call(places=places, ways=chain)
        for i in range(16):
            expected = [[1000 * (j - i) if j >= i else -4] for j in range(16)]
            self.assertEqual(wrong_answers([ride_call(i, j) for j in range(16)], expected, before), [])
        winding = [0, 9, 1, 9, 3, 1, 3, 12, 1, 12, 1, 1, 0, 1, 5]
        self.assert_said([4], ride_call(0, 1), set_call(places=places, ways=winding))

    def test_as_many_ways_as_there_may_be(self):
        places = " ".join("P" + "o" * k for k in range(16))
        ways = [(i, j, (i * 37 + j * 101) % 1000 + 1) for i in range(16) for j in range(16) if i != j]
        self.assertEqual(len(ways), 240)
        rides = walked_rides(16, ways)
        pairs = [(i, j) for i in range(16) for j in range(16)]
        said = [[rides[pair]] for pair in pairs]
        self.assertEqual(wrong_answers([ride_call(i, j) for i, j in pairs], said, set_call(places=places, ways=flat(ways))), [])

    def test_the_ways_of_the_last_set(self):
        ways = [0, 1, 4]
        said = ask(BOOK, set_call(places="Ghent Bruges", ways=ways), ride_call(0, 1), ride_call(1, 0), ride_call(0, 2), BOOK,
                   ride_call(0, 1), ride_call(1, 0), ride_call(0, 2))
        self.assertEqual(said[2:], [[4], [-4], [-3], [0], [2], [10], [5]])
        # A set that is refused at its last rule changes no ride.
        said = ask(BOOK, set_call(places="Ghent Bruges", ways=ways, seens=[5, 0, 8, 1]), ride_call(0, 1), can_call(5, 3, 3, 0))
        self.assertEqual(said[1:], [[-7, 2, 15, 1], [2], [1]])


if __name__ == "__main__":
    unittest.main()
