"""The call set: each rule of the book of days and of the books, with its place."""

import unittest

from tests.support import HUGE, LAST_DAY, ask, feast_call, months_of, set_call, year_call


def refused(group, rule, place):
    return [-7, group, rule, place]


def letters(count):
    """That many different names of one and two small letters."""
    return [chr(97 + k // 26) + chr(97 + k % 26) for k in range(count)]


def capitals(count):
    return [name.capitalize() for name in letters(count)]


class SetTest(unittest.TestCase):
    def assert_set(self, said, **rows):
        self.assertEqual(ask(set_call(**rows))[0], said, rows)


class DaybookRuleTest(SetTest):
    def test_1_the_years(self):
        for head in ([1, 1], [1, 2], [1, 3], [2000, 2000], [1999, 2000], [1998, 2000], [1200, 1202]):
            self.assert_set([0], head=head)
        for head in ([0, 0], [0, 1], [0, 2], [1, 0], [2, 1], [1, 4], [1997, 2000], [1999, 2001], [2000, 2001], [2001, 2001],
                     [1200, 1203], [1200, 1199], [HUGE, HUGE], [1, HUGE], [-HUGE, 1]):
            self.assert_set(refused(1, 1, 0), head=head)

    def test_1_too_many_feasts_and_reigns(self):
        self.assert_set([0], feasts=[0, 1, 1, 0] * 16, reigns=[0, 1] * 16)
        self.assert_set(refused(1, 1, 1), feasts=[0, 1, 1, 0] * 17)
        self.assert_set(refused(1, 1, 2), reigns=[0, 1] * 17)
        self.assert_set(refused(1, 1, 1), feasts=[0, 1, 1, 0] * 17, reigns=[0, 1] * 17)
        self.assert_set(refused(1, 1, 0), head=[0, 1], feasts=[0, 1, 1, 0] * 17, reigns=[0, 1] * 17)
        self.assert_set(refused(1, 1, 1), feasts=[0, 1, 1, 0] * 1000)
        self.assert_set(refused(1, 1, 2), reigns=[0, 1] * 2000)

    def test_1_sixteen_can_be_asked(self):
        rows = set_call(feasts=[0, 1, 1, 0] * 15 + [0, 1, 2, 0], reigns=[0, 1] * 15 + [1, 2])
        said = ask(rows, feast_call(15, 1), feast_call(16, 1), year_call(15, 2), year_call(16, 2))
        self.assertEqual(said[1:], [[1], [-3], [1], [-3]])

    def test_2_a_fixed_feast(self):
        for m, length in enumerate(months_of(1), start=1):
            for d in range(1, length + 1):
                self.assert_set([0], feasts=[0, m, d, 0])
            for d in (0, length + 1, HUGE):
                self.assert_set(refused(1, 2, 0), feasts=[0, m, d, 0])
        self.assert_set(refused(1, 2, 0), head=[1200, 1200], feasts=[0, 2, 29, 0])
        for feast in ([0, 0, 1, 0], [0, 13, 1, 0], [0, HUGE, 1, 0], [0, 1, 1, 1], [0, 1, 1, -1], [0, 1, 1, HUGE], [0, 0, 0, 0]):
            self.assert_set(refused(1, 2, 0), feasts=feast)

    def test_2_a_moving_feast(self):
        for off in (-90, -89, 0, 199, 200):
            self.assert_set([0], feasts=[1, 0, 0, off])
        for off in (-91, 201, HUGE, -HUGE):
            self.assert_set(refused(1, 2, 0), feasts=[1, 0, 0, off])
        self.assert_set(refused(1, 2, 0), feasts=[1, 1, 0, 0])
        self.assert_set(refused(1, 2, 0), feasts=[1, 0, 1, 0])
        self.assert_set(refused(1, 2, 0), feasts=[1, 3, 25, 0])

    def test_2_neither(self):
        for moves in (2, 3, HUGE):
            self.assert_set(refused(1, 2, 0), feasts=[moves, 0, 0, 0])
            self.assert_set(refused(1, 2, 0), feasts=[moves, 1, 1, 0])

    def test_2_the_first_place(self):
        self.assert_set(refused(1, 2, 2), feasts=[0, 1, 1, 0, 1, 0, 0, 5, 0, 2, 29, 0, 2, 0, 0, 0])
        self.assert_set(refused(1, 2, 15), feasts=[0, 1, 1, 0] * 15 + [0, 2, 29, 0])

    def test_3_a_reign(self):
        for reign in ([0, 0], [0, LAST_DAY], [LAST_DAY, LAST_DAY], [5, 6]):
            self.assert_set([0], reigns=reign)
        for reign in ([6, 5], [-1, 5], [0, LAST_DAY + 1], [LAST_DAY + 1, LAST_DAY + 1], [-1, -1], [HUGE, HUGE], [5, -1]):
            self.assert_set(refused(1, 3, 0), reigns=reign)
        self.assert_set(refused(1, 3, 1), reigns=[0, 1, 2, 1, 3, 2])
        self.assert_set(refused(1, 3, 15), reigns=[0, 1] * 15 + [1, 0])

    def test_the_first_rule_is_told(self):
        self.assert_set(refused(1, 1, 0), head=[0, 0], feasts=[2, 0, 0, 0], reigns=[1, 0])
        self.assert_set(refused(1, 2, 1), feasts=[0, 1, 1, 0, 2, 0, 0, 0], reigns=[1, 0])
        self.assert_set(refused(1, 1, 2), feasts=[2, 0, 0, 0], reigns=[1, 0] * 17)

    def test_first_group_first(self):
        self.assert_set(refused(1, 3, 0), reigns=[1, 0], offices="Bad")
        self.assert_set(refused(1, 1, 0), head=[1, 4], seals=[0, 1] * 17)
        self.assert_set(refused(1, 2, 0), feasts=[2, 0, 0, 0], seals=[1, 0])


class CountRuleTest(SetTest):
    def many(self, persons=0, offices=0, holds=0, seals=0, places=0, seens=0, ways=0):
        """So many of each, right but for their counts and (the ways) for what they repeat."""
        pairs = [(i, j) for i in range(16) for j in range(16) if i != j]
        pairs += [(0, 1)] * max(0, ways - len(pairs))
        return {
            "lives": [0, LAST_DAY] * persons, "persons": " ".join(capitals(persons)),
            "offices": " ".join(letters(offices)),
            "holds": [number for k in range(holds) for number in (0, 0, k, k)],
            "seals": [0, 1] * seals, "places": " ".join(capitals(places)),
            "seens": [number for k in range(seens) for number in (k, 0)],
            "ways": [number for i, j in pairs[:ways] for number in (i, j, 5)],
        }

    def test_1_just_not_too_many(self):
        self.assert_set([0], **self.many(persons=32, offices=16, holds=64, seals=16, places=16, seens=64, ways=240))

    def test_1_one_too_many(self):
        full = {"persons": 32, "offices": 16, "holds": 64, "seals": 16, "places": 16, "seens": 64, "ways": 240}
        for place, name in enumerate(full):
            self.assert_set(refused(2, 1, place), **self.many(**{**full, name: full[name] + 1}))
            self.assert_set(refused(2, 1, place), **self.many(**{**full, name: full[name] + 20}))

    def test_1_the_first_place(self):
        full = {"persons": 32, "offices": 16, "holds": 64, "seals": 16, "places": 16, "seens": 64, "ways": 240}
        names = list(full)
        for place, name in enumerate(names):
            for other in names[place + 1:]:
                more = {**full, name: full[name] + 1, other: full[other] + 1}
                self.assert_set(refused(2, 1, place), **self.many(**more))

    def test_1_comes_before_what_is_wrong_with_them(self):
        self.assert_set(refused(2, 1, 3), seals=[1, 0] * 17, offices="Bad")
        self.assert_set(refused(2, 1, 1), offices=" " * 16)
        self.assert_set(refused(2, 4, 0), offices=" " * 15)


CAPITAL_NAMES = ("A", "Z", "Anna", "Zz", "Az", "A" + "a" * 30)
SMALL_NAMES = ("a", "z", "notary", "zz", "a" * 31)
NO_CAPITAL_NAMES = (
    "a", "anna", "AnnA", "AA", "A" + "a" * 31, "A" * 32, "A1", "1a", "An-na", "A@", "A[", "A`", "A{", "@a", "[a", "`a",
    "A.", "A" + "\x7f", "A\n", "\x00",
)
NO_SMALL_NAMES = ("A", "Notary", "notarY", "a" * 32, "a1", "1", "a-b", "a`", "a{", "`", "{", "@", "[", "\x00")
NO_SPANS = ([1, 0], [-1, 0], [-1, -1], [0, LAST_DAY + 1], [LAST_DAY + 1, LAST_DAY + 1], [-HUGE, HUGE], [LAST_DAY, 0])
SPANS = ([0, 0], [0, LAST_DAY], [LAST_DAY, LAST_DAY], [7, 8])


class PersonRuleTest(SetTest):
    def test_2_no_span(self):
        for life in SPANS:
            self.assert_set([0], lives=life, persons="Anna")
        for life in NO_SPANS:
            self.assert_set(refused(2, 2, 0), lives=life, persons="Anna")
            self.assert_set(refused(2, 2, 1), lives=[0, 0] + life, persons="Anna Bela")

    def test_2_no_name(self):
        for name in CAPITAL_NAMES:
            self.assert_set([0], lives=[0, 0], persons=name)
        for name in NO_CAPITAL_NAMES:
            self.assert_set(refused(2, 2, 0), lives=[0, 0], persons=name)
            self.assert_set(refused(2, 2, 1), lives=[0, 0, 0, 0], persons="Anna " + name)

    def test_2_bytes_beyond_letters(self):
        for byte in (127, 128, 193, 225, 255):
            self.assert_set(refused(2, 2, 0), lives=[0, 0], persons=[65, byte])
            self.assert_set(refused(2, 2, 0), lives=[0, 0], persons=[byte])

    def test_2_the_first_place_of_either_fault(self):
        self.assert_set(refused(2, 2, 1), lives=[0, 0, 0, 0, 1, 0], persons="Anna bela Cora")
        self.assert_set(refused(2, 2, 1), lives=[0, 0, 1, 0, 0, 0], persons="Anna Bela cora")

    def test_3_a_name_of_one_before(self):
        self.assert_set(refused(2, 3, 1), lives=[0, 0, 0, 0], persons="Anna Anna")
        self.assert_set(refused(2, 3, 2), lives=[0, 0] * 4, persons="Anna Bela Anna Bela")
        self.assert_set([0], lives=[0, 0] * 3, persons="Anna Ann Annas")
        self.assert_set([0], lives=[0, 0] * 2, persons="Anna Bela", places="Anna")


class OfficeRuleTest(SetTest):
    def test_4_no_name(self):
        for name in SMALL_NAMES:
            self.assert_set([0], offices=name)
        for name in NO_SMALL_NAMES:
            self.assert_set(refused(2, 4, 0), offices=name)
            self.assert_set(refused(2, 4, 1), offices="notary " + name)
        for byte in (127, 128, 225, 255):
            self.assert_set(refused(2, 4, 0), offices=[97, byte])

    def test_5_a_name_of_one_before(self):
        self.assert_set(refused(2, 5, 1), offices="notary notary")
        self.assert_set(refused(2, 5, 3), offices="abbot notary scribe abbot notary")
        self.assert_set([0], offices="notary notar notaryy")


TWO = {"lives": [10, 100, 50, 200], "persons": "Anna Bela", "offices": "chancellor notary"}


class HoldRuleTest(SetTest):
    def test_6_no_such_hold(self):
        self.assert_set([0], holds=[1, 1, 50, 200], **TWO)
        for hold in ([2, 0, 50, 60], [HUGE, 0, 50, 60], [0, 2, 50, 60], [0, HUGE, 50, 60], [0, 0, 60, 50], [0, 0, -1, 50],
                     [0, 0, 50, LAST_DAY + 1], [0, 0, -5, -4], [1, 1, HUGE, HUGE]):
            self.assert_set(refused(2, 6, 0), holds=hold, **TWO)
            self.assert_set(refused(2, 6, 1), holds=[0, 0, 10, 20] + hold, **TWO)
        self.assert_set(refused(2, 6, 0), holds=[0, 0, 0, 0])

    def test_7_not_within_the_life(self):
        for hold in ([0, 0, 10, 100], [0, 0, 10, 10], [0, 0, 100, 100], [1, 0, 50, 200]):
            self.assert_set([0], holds=hold, **TWO)
        for hold in ([0, 0, 9, 100], [0, 0, 10, 101], [0, 0, 9, 9], [0, 0, 101, 101], [0, 0, 0, LAST_DAY], [1, 0, 10, 100]):
            self.assert_set(refused(2, 7, 0), holds=hold, **TWO)
            self.assert_set(refused(2, 7, 1), holds=[1, 1, 150, 160] + hold, **TWO)

    def test_8_a_day_in_common(self):
        for other in ([0, 0, 61, 70], [0, 0, 49, 49], [1, 0, 61, 61], [0, 1, 50, 60], [1, 1, 50, 60], [0, 1, 10, 100]):
            self.assert_set([0], holds=[0, 0, 50, 60] + other, **TWO)
        for other in ([0, 0, 60, 70], [0, 0, 40, 50], [0, 0, 50, 60], [1, 0, 55, 56], [1, 0, 50, 200], [0, 0, 10, 100],
                      [1, 0, 60, 60], [0, 0, 50, 50]):
            self.assert_set(refused(2, 8, 1), holds=[0, 0, 50, 60] + other, **TWO)

    def test_8_goes_by_the_office_not_by_the_person(self):
        self.assert_set(refused(2, 8, 1), holds=[1, 0, 60, 70, 0, 0, 65, 66], **TWO)
        self.assert_set(refused(2, 8, 1), holds=[0, 1, 60, 70, 1, 1, 65, 66], **TWO)
        self.assert_set([0], holds=[1, 0, 60, 70, 0, 1, 65, 66, 0, 0, 71, 72, 1, 1, 67, 68], **TWO)

    def test_8_with_any_earlier_hold_of_the_office(self):
        self.assert_set(refused(2, 8, 3), holds=[0, 0, 50, 60, 0, 1, 50, 60, 0, 0, 70, 80, 1, 0, 60, 65], **TWO)
        self.assert_set(refused(2, 8, 2), holds=[0, 0, 70, 80, 0, 0, 50, 60, 0, 0, 75, 75, 0, 0, 55, 55], **TWO)
        self.assert_set([0], holds=[0, 0, 70, 80, 0, 0, 50, 60, 0, 0, 61, 69], **TWO)


class SealRuleTest(SetTest):
    def test_9_no_span(self):
        for span in SPANS:
            self.assert_set([0], seals=span + span)
        for span in NO_SPANS:
            self.assert_set(refused(2, 9, 0), seals=span)
            self.assert_set(refused(2, 9, 2), seals=[0, 0, 0, 0] + span)


class PlaceRuleTest(SetTest):
    def test_10_no_name(self):
        for name in CAPITAL_NAMES:
            self.assert_set([0], places=name)
        for name in NO_CAPITAL_NAMES:
            self.assert_set(refused(2, 10, 0), places=name)
            self.assert_set(refused(2, 10, 1), places="Ghent " + name)

    def test_11_a_name_of_one_before(self):
        self.assert_set(refused(2, 11, 1), places="Ghent Ghent")
        self.assert_set(refused(2, 11, 2), places="Ghent Bruges Bruges Ghent")


class WayRuleTest(SetTest):
    places = "Ghent Bruges Ypres"

    def test_12_a_way(self):
        for way in ([0, 1, 1], [1, 0, 1000], [2, 1, 500]):
            self.assert_set([0], places=self.places, ways=way)
        for way in ([3, 0, 1], [0, 3, 1], [HUGE, 0, 1], [0, HUGE, 1], [0, 0, 1], [2, 2, 1], [0, 1, 0], [0, 1, 1001], [0, 1, HUGE]):
            self.assert_set(refused(2, 12, 0), places=self.places, ways=way)
            self.assert_set(refused(2, 12, 1), places=self.places, ways=[1, 2, 5] + way)
        self.assert_set(refused(2, 12, 0), ways=[0, 1, 1])

    def test_12_one_before_leads_there(self):
        self.assert_set([0], places=self.places, ways=[0, 1, 5, 1, 0, 5, 0, 2, 5, 2, 1, 5])
        self.assert_set(refused(2, 12, 1), places=self.places, ways=[0, 1, 5, 0, 1, 5])
        self.assert_set(refused(2, 12, 2), places=self.places, ways=[0, 1, 5, 1, 0, 5, 0, 1, 3])

    def test_12_the_first_place_of_any_fault(self):
        self.assert_set(refused(2, 12, 1), places=self.places, ways=[0, 1, 5, 0, 1, 5, 0, 0, 1])
        self.assert_set(refused(2, 12, 1), places=self.places, ways=[0, 1, 5, 0, 0, 1, 0, 1, 5])


class SeenRuleTest(SetTest):
    places = "Ghent Bruges Ypres Lille"
    # From place 0 to 2 it's 5 over 1, 9 straight; back only straight; to 3 and from there no way.
    ways = [0, 1, 2, 1, 2, 3, 0, 2, 9, 2, 0, 7]

    def assert_seens(self, said, seens):
        self.assert_set(said, places=self.places, ways=self.ways, seens=seens)

    def test_13_no_day_no_place(self):
        for seen in ([0, 0], [LAST_DAY, 3]):
            self.assert_seens([0], seen)
        for seen in ([-1, 0], [LAST_DAY + 1, 0], [HUGE, 0], [5, 4], [5, HUGE]):
            self.assert_seens(refused(2, 13, 0), seen)
            self.assert_seens(refused(2, 13, 1), [0, 0] + seen)
        self.assert_set(refused(2, 13, 0), seens=[0, 0])

    def test_14_not_behind_the_one_before(self):
        self.assert_seens([0], [5, 0, 6, 0, 7, 0])
        self.assert_seens(refused(2, 14, 1), [5, 0, 5, 0])
        self.assert_seens(refused(2, 14, 1), [5, 0, 4, 0])
        self.assert_seens(refused(2, 14, 2), [5, 0, 9, 0, 6, 0, 7, 0])
        self.assert_seens(refused(2, 14, 3), [5, 0, 6, 0, 7, 0, 7, 0])

    def test_15_no_ride_in_the_days_between(self):
        for seens in ([5, 0, 7, 1], [5, 0, 10, 2], [5, 2, 12, 0], [5, 1, 15, 0], [5, 3, 6, 3], [5, 0, 6, 0], [5, 2, 14, 1],
                      [0, 0, LAST_DAY, 1]):
            self.assert_seens([0], seens)
        for seens in ([5, 0, 6, 1], [5, 0, 9, 2], [5, 2, 11, 0], [5, 1, 14, 0], [5, 2, 13, 1], [5, 0, LAST_DAY, 3],
                      [0, 3, LAST_DAY, 0]):
            self.assert_seens(refused(2, 15, 1), seens)

    def test_15_from_the_seen_just_before(self):
        self.assert_seens([0], [0, 0, 2, 1, 5, 2, 12, 0])
        self.assert_seens(refused(2, 15, 3), [0, 0, 2, 1, 5, 2, 11, 0])
        self.assert_seens(refused(2, 15, 2), [0, 0, 2, 1, 4, 2, 5, 3])
        self.assert_seens(refused(2, 15, 2), [0, 0, 100, 1, 101, 0])

    def test_15_the_least_sum_over_many_places(self):
        places = " ".join(capitals(16))
        chain = [number for k in range(15) for number in (k, k + 1, 1000)]
        self.assert_set([0], places=places, ways=chain, seens=[0, 0, 15000, 15])
        self.assert_set(refused(2, 15, 1), places=places, ways=chain, seens=[0, 0, 14999, 15])
        self.assert_set(refused(2, 15, 1), places=places, ways=chain, seens=[0, 15, LAST_DAY, 0])
        back = [number for k in range(15) for number in (k + 1, k, 7)]
        self.assert_set([0], places=places, ways=back, seens=[0, 15, 105, 0])
        self.assert_set(refused(2, 15, 1), places=places, ways=back, seens=[0, 15, 104, 0])
        winding = [0, 9, 1, 9, 3, 1, 3, 12, 1, 12, 1, 1, 0, 1, 5]
        self.assert_set([0], places=places, ways=winding, seens=[0, 0, 4, 1])
        self.assert_set(refused(2, 15, 1), places=places, ways=winding, seens=[0, 0, 3, 1])


class Draft:
    """Good rows, to which things are added that break one rule each; an adding tells its place."""

    def __init__(self):
        self.head = [1200, 1202]
        self.feasts = [(0, 6, 24, 0)]
        self.reigns = [(0, 100)]
        self.lives = [(0, 1000), (10, 2000)]
        self.persons = ["Anna", "Bela"]
        self.offices = ["chancellor", "notary"]
        self.holds = [(0, 0, 10, 20), (1, 1, 10, 20)]
        self.seals = [(0, 10)]
        self.places = ["Ghent", "Bruges", "Ypres"]
        self.ways = [(0, 1, 3), (1, 0, 3)]
        self.seens = [(10, 0), (13, 1)]

    def rows(self):
        rows = {"head": self.head}
        for name in ("persons", "offices", "places"):
            rows[name] = " ".join(getattr(self, name))
        for name in ("feasts", "reigns", "lives", "holds", "seals", "ways", "seens"):
            rows[name] = [number for thing in getattr(self, name) for number in thing]
        return rows


def added(things, thing):
    things.append(thing)
    return len(things) - 1


def break_years(draft):
    draft.head = [1200, 1203]
    return 0


def break_feast(draft):
    return added(draft.feasts, (0, 2, 29, 0))


def break_reign(draft):
    return added(draft.reigns, (5, 4))


def break_counts(draft):
    draft.seals += [(0, 1)] * 20
    return 3


def break_person(draft):
    draft.lives.append((5, 4))
    return added(draft.persons, "Zoe")


def break_repeated_person(draft):
    draft.lives.append((5, 6))
    return added(draft.persons, "Anna")


def break_office(draft):
    return added(draft.offices, "Bad")


def break_repeated_office(draft):
    return added(draft.offices, "notary")


def break_hold(draft):
    return added(draft.holds, (99, 0, 30, 30))


def break_life(draft):
    return added(draft.holds, (0, 0, 1001, 1001))


def break_one_holder(draft):
    return added(draft.holds, (1, 0, 20, 21))


def break_seal(draft):
    return added(draft.seals, (5, 4))


def break_place(draft):
    return added(draft.places, "bad")


def break_repeated_place(draft):
    return added(draft.places, "Ghent")


def break_way(draft):
    return added(draft.ways, (0, 0, 1))


def break_seen(draft):
    return added(draft.seens, (draft.seens[-1][0] + 50, 99))


def break_order(draft):
    return added(draft.seens, draft.seens[-1])


def break_ride(draft):
    return added(draft.seens, (draft.seens[-1][0] + 50, 2))


BREAKERS = (
    (1, 1, break_years), (1, 2, break_feast), (1, 3, break_reign), (2, 1, break_counts), (2, 2, break_person),
    (2, 3, break_repeated_person), (2, 4, break_office), (2, 5, break_repeated_office), (2, 6, break_hold),
    (2, 7, break_life), (2, 8, break_one_holder), (2, 9, break_seal), (2, 10, break_place),
    (2, 11, break_repeated_place), (2, 12, break_way), (2, 13, break_seen), (2, 14, break_order), (2, 15, break_ride),
)


class OrderTest(SetTest):
    def test_the_draft_is_good(self):
        self.assert_set([0], **Draft().rows())

    def test_each_rule_alone(self):
        for group, rule, breaker in BREAKERS:
            draft = Draft()
            place = breaker(draft)
            self.assert_set(refused(group, rule, place), **draft.rows())

    def test_of_two_rules_the_first_is_told(self):
        for k, (group, rule, breaker) in enumerate(BREAKERS):
            for other_group, other_rule, other in BREAKERS[k + 1:]:
                draft = Draft()
                place = breaker(draft)
                other(draft)
                self.assert_set(refused(group, rule, place), **draft.rows())
                draft = Draft()
                other(draft)
                place = breaker(draft)
                self.assert_set(refused(group, rule, place), **draft.rows())

    def test_of_one_rule_the_first_place_is_told(self):
        for group, rule, breaker in BREAKERS:
            draft = Draft()
            place = breaker(draft)
            breaker(draft)
            self.assert_set(refused(group, rule, place), **draft.rows())


if __name__ == "__main__":
    unittest.main()
