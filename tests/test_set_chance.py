"""The call set on drawn books: one holder of an office on a day (promise D6), and rides between seens, by walking the days."""

import random
import unittest

from tests.support import flat, set_call, wrong_answers


def first_second_holder(holds):
    """The first hold on one of whose days its office is held already; None if there's none."""
    taken = set()
    for k, (person, office, first, last) in enumerate(holds):
        days = {(office, day) for day in range(first, last + 1)}
        if days & taken:
            return k
        taken |= days
    return None


def reached(start, ways, days):
    """The places at which one can be, that many days after being at start, by going on from day to day."""
    arrivals = [{start}]
    for day in range(1, days + 1):
        here = set(arrivals[-1])
        here.update(j for i, j, n in ways if n <= day and i in arrivals[day - n])
        arrivals.append(here)
    return arrivals[days]


def first_unreached(seens, ways):
    for k in range(1, len(seens)):
        (day_before, place_before), (day, place) = seens[k - 1:k + 1]
        if place not in reached(place_before, ways, day - day_before):
            return k
    return None


def said_of(rule, place):
    return [0] if place is None else [-7, 2, rule, place]


class ChanceTest(unittest.TestCase):
    def assert_drawn(self, rule, calls, places):
        """Books of both kinds were drawn, often, and each is answered as expected."""
        broken = len([place for place in places if place is not None])
        self.assertTrue(len(places) // 10 < broken < len(places) * 9 // 10, broken)
        self.assertEqual(wrong_answers(calls, [said_of(rule, place) for place in places]), [])

    def test_8_one_holder_on_a_day(self):
        source = random.Random(8)
        calls = []
        places = []
        for count in range(3000):
            holds = []
            for k in range(source.randint(1, 8)):
                first = source.randint(100, 160)
                holds.append((source.randrange(3), source.randrange(3), first, first + source.randint(0, 12)))
            calls.append(set_call(lives=[100, 200] * 3, persons="Anna Bela Cora", offices="a b c", holds=flat(holds)))
            places.append(first_second_holder(holds))
        self.assert_drawn(8, calls, places)

    def test_15_rides_between_seens(self):
        source = random.Random(15)
        calls = []
        places = []
        pairs = [(i, j) for i in range(5) for j in range(5) if i != j]
        for count in range(3000):
            ways = [(i, j, source.randint(1, 9)) for i, j in source.sample(pairs, source.randint(4, 20))]
            day = 0
            seens = []
            for k in range(source.randint(2, 5)):
                day += source.randint(1, 12)
                seens.append((day, source.randrange(5)))
            calls.append(set_call(places="A B C D E", ways=flat(ways), seens=flat(seens)))
            places.append(first_unreached(seens, ways))
        self.assert_drawn(15, calls, places)


if __name__ == "__main__":
    unittest.main()
