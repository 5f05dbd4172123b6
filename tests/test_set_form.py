"""The call set: rows that are refused with -2, and what they may break instead."""

import unittest

from tests.support import (
    HUGE, LAST_DAY, ask, barred_call, can_call, clash_call, feast_call, find_call, highest_call, holder_call, means_call, ride_call,
    set_call, spans_call,
)

GOOD = {
    "head": [1200, 1202],
    "feasts": [0, 6, 24, 0, 1, 0, 0, 49],
    "reigns": [100, 200, 150, 300],
    "lives": [0, 1000, 500, 2000],
    "persons": "Anna Bela",
    "offices": "chancellor notary",
    "holds": [0, 0, 10, 20, 1, 1, 500, 600],
    "seals": [0, 10, 5, 20],
    "places": "Ghent Bruges",
    "ways": [0, 1, 3, 1, 0, 4],
    "seens": [10, 0, 13, 1],
}
# Of each row how many numbers go together, and in which columns none may be below 0.
FORMS = {
    "feasts": (4, (0, 1, 2)),
    "reigns": (2, ()),
    "lives": (2, ()),
    "holds": (4, (0, 1)),
    "seals": (2, ()),
    "ways": (3, (0, 1, 2)),
    "seens": (2, (1,)),
}
# The group and the rule that a row's number below 0 breaks, where it isn't refused.
RULES = {"feasts": (1, 2), "reigns": (1, 3), "lives": (2, 2), "holds": (2, 6), "seals": (2, 9), "seens": (2, 13)}


def answer_of(**changed):
    return ask(set_call(**{**GOOD, **changed}))[0]


class FormTest(unittest.TestCase):
    def test_good_rows(self):
        self.assertEqual(answer_of(), [0])

    def test_no_rows_but_a_head(self):
        self.assertEqual(ask(set_call()), [[0]])

    def test_head_of_another_count(self):
        for head in ([], [1200], [1200, 1201, 1202], [1200, 1200, 1200, 1200]):
            self.assertEqual(answer_of(head=head), [-2], head)

    def test_rows_not_by_so_many(self):
        for name, (size, columns) in FORMS.items():
            for less in range(1, size):
                self.assertEqual(answer_of(**{name: GOOD[name][:-less]}), [-2], (name, less))
                self.assertEqual(answer_of(**{name: GOOD[name] + [0] * less}), [-2], (name, less))
                self.assertEqual(answer_of(**{name: [0] * less}), [-2], (name, less))

    def test_numbers_below_0(self):
        for name, (size, columns) in FORMS.items():
            for place in range(len(GOOD[name])):
                for number in (-1, -HUGE):
                    changed = list(GOOD[name])
                    changed[place] = number
                    said = answer_of(**{name: changed})
                    if place % size in columns:
                        self.assertEqual(said, [-2], (name, place))
                    elif name == "feasts" and place == 7 and number == -1:
                        self.assertEqual(said, [0])
                    else:
                        self.assertEqual(said, [-7, *RULES[name], place // size], (name, place))

    def test_years_below_0_break_a_rule(self):
        for head in ([-1, 1], [-1, -1], [-HUGE, -HUGE], [1, -1]):
            self.assertEqual(answer_of(head=head), [-7, 1, 1, 0], head)

    def test_0_where_no_number_may_be_below_it(self):
        self.assertEqual(answer_of(feasts=[0, 0, 1, 0]), [-7, 1, 2, 0])
        self.assertEqual(answer_of(feasts=[0, 1, 0, 0]), [-7, 1, 2, 0])
        self.assertEqual(answer_of(ways=[0, 1, 0]), [-7, 2, 12, 0])
        self.assertEqual(answer_of(seens=[0, 0]), [0])

    def test_another_number_of_names_than_lives(self):
        for persons in ("", "Anna", "Anna Bela Cora", "Anna Bela ", " Anna Bela", "Anna  Bela", "AnnaBela", "  "):
            self.assertEqual(answer_of(persons=persons), [-2], persons)
        self.assertEqual(answer_of(lives=[0, 1000]), [-2])
        self.assertEqual(answer_of(lives=[]), [-2])
        self.assertEqual(answer_of(lives=[], persons="", holds=[]), [0])

    def test_one_life_and_no_name(self):
        self.assertEqual(ask(set_call(lives=[0, 1])), [[-2]])
        self.assertEqual(ask(set_call(persons="Anna")), [[-2]])

    def test_blanks_part_empty_names(self):
        self.assertEqual(answer_of(persons=" "), [-7, 2, 2, 0])
        self.assertEqual(answer_of(persons="Anna "), [-7, 2, 2, 1])
        self.assertEqual(answer_of(persons=" Anna"), [-7, 2, 2, 0])
        self.assertEqual(answer_of(offices=" "), [-7, 2, 4, 0])
        self.assertEqual(answer_of(offices="chancellor  notary"), [-7, 2, 4, 1])
        self.assertEqual(answer_of(places="Ghent Bruges "), [-7, 2, 10, 2])

    def test_form_comes_before_every_rule(self):
        wrong_form = {"ways": [0], "seens": [0, -1], "head": [1], "persons": "Anna"}
        wrong_rule = {"head": [0, 0], "feasts": [2, 0, 0, 0], "offices": "Bad", "reigns": [5, 4]}
        for name, numbers in wrong_form.items():
            for other, rows in wrong_rule.items():
                if name != other:
                    self.assertEqual(answer_of(**{name: numbers, other: rows}), [-2], (name, other))

    def test_a_row_that_is_too_long_is_still_to_be_of_the_form(self):
        self.assertEqual(answer_of(reigns=[0, 1] * 17 + [0]), [-2])
        self.assertEqual(answer_of(ways=[0, 1, 1] * 300 + [0, 1, -1]), [-2])


class RefusedSetTest(unittest.TestCase):
    def test_a_refused_set_changes_nothing(self):
        good = set_call(**GOOD)
        asked = [feast_call(0, 1200), feast_call(1, 1200), feast_call(2, 1200), [7, 0, 150], [7, 1, 150], [9, 0, 5, 7, 1, 0, 0, 1]]
        asked += [means_call(), means_call((5, 1, 0, 0, 0)), clash_call((3, 0, 0, 0, 1203)), find_call(0, "Bela"), find_call(1, "notary")]
        asked += [find_call(2, "Bruges"), holder_call(1, 500), highest_call(1, 600), ride_call(1, 0), can_call(12, 3, 1, 0)]
        asked += [can_call(10, 3, 0, 0), spans_call((2, 1, 0)), barred_call((0, 1, 0))]
        told = ask(good, *asked)[1:]
        refused = (
            {"head": [1]}, {"ways": [0]}, {"persons": "Anna"}, {"head": [0, 1]}, {"reigns": [5, 4]},
            {"offices": "Bad"}, {"seens": [10, 0, 12, 1]}, {"seens": [LAST_DAY + 1, 0]},
        )
        for changed in refused:
            rows = {
                **GOOD, "head": [1, 1], "feasts": [0, 1, 1, 0], "reigns": [0, LAST_DAY], "persons": "Cora Dora", "holds": [],
                "seals": [], "ways": [0, 1, 3], "offices": "scribe", "places": "Ypres Lille", **changed,
            }
            said = ask(good, set_call(**rows), *asked)
            self.assertIn(said[1][0], (-2, -7))
            self.assertEqual(said[2:], told, changed)

    def test_a_refused_first_set_leaves_the_object_as_at_first(self):
        said = ask(set_call(feasts=[0, 1, 1, 0], offices="Bad"), feast_call(0, 1))
        self.assertEqual(said, [[-7, 2, 4, 0], [-3]])

    def test_a_set_takes_the_place_of_the_one_before(self):
        said = ask(set_call(feasts=[0, 1, 1, 0], reigns=[0, 9]), set_call(feasts=[0, 1, 2, 0]), feast_call(0, 1), [7, 0, 0])
        self.assertEqual(said, [[0], [0], [1], [-3]])


if __name__ == "__main__":
    unittest.main()
