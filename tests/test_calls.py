"""The list of calls: how it's read, what is given back, that it stays as it was and nothing is kept."""

import builtins
import random
import unittest

from chancerydays.books import answers
from tests.support import (
    LAST_DAY, NUMBERS, ask, barred_call, can_call, clash_call, day_call, easter_call, feast_call, find_call, has_call,
    highest_call, holder_call, means_call, ride_call, roman_call, set_call, spans_call, style_call, tell_call, year_call,
)

BOOK = set_call(
    head=[1200, 1202], feasts=[0, 6, 24, 0, 1, 0, 0, 49], reigns=[100, 2000], lives=[0, 1000], persons="Anna",
    offices="notary", holds=[0, 0, 10, 20], seals=[0, LAST_DAY], places="Ghent Bruges", ways=[0, 1, 3], seens=[10, 0, 13, 1],
)
SATURDAY = (2, 5, 0, 0, 0)
FIRST = NUMBERS[(1200, 1, 1)]
LAST = NUMBERS[(1202, 12, 31)]
# Each call with each kind of answer, and what it is with BOOK.
ASKED = (
    (day_call(1, 1, 1), [0]), (tell_call(5), [0, 1, 1, 6, 3]), (easter_call(1), [85]), (roman_call(0), [0, 1, 0, 1]),
    (BOOK, [0]), (feast_call(0, 1), [174]), (year_call(0, 100), [1]), (style_call(0, 1), [0]), (has_call(0, *SATURDAY), [1]),
    (means_call((5, 0, 0, 0, 0)), [3] + [NUMBERS[(y, 6, 24)] for y in (1200, 1201, 1202)]),
    (means_call((0, 2, 30, 0, 0)), [0]), (means_call(), [1096, *range(FIRST, LAST + 1)]),
    (clash_call(SATURDAY), [0]), (clash_call(SATURDAY, (2, 4, 0, 0, 0)), [2, 0, 1]), (clash_call(), [0]),
    (find_call(0, "Anna"), [0]), (find_call(1, "notary"), [0]), (find_call(2, "Bruges"), [1]), (holder_call(0, 10), [0]),
    (highest_call(0, 20), [0]), (ride_call(0, 1), [3]), (ride_call(1, 1), [0]), (can_call(10, 3, 0, 0), [1]),
    (can_call(11, 3, 0, 0), [0]), (spans_call((2, 0, 0)), [1, FIRST, LAST]), (spans_call((0, 0, 0)), [0]),
    (barred_call((2, 0, 0)), [0]), (barred_call((2, 0, 0), (0, 0, 0)), [1, 1]), (spans_call(), [1, FIRST, LAST]), (barred_call(), [0]),
    (day_call(1, 2, 29), [-3]), (tell_call(-1), [-3]), (easter_call(0), [-3]), (roman_call(-1), [-3]),
    (set_call(head=[0, 0]), [-7, 1, 1, 0]), (set_call(head=[]), [-2]), (feast_call(9, 1), [-3]), (year_call(9, 1), [-3]),
    (style_call(0, 6), [-3]), (has_call(0), [-4]), (has_call(-1, *SATURDAY), [-3]), (means_call(SATURDAY[:4]), [-2]),
    (means_call(SATURDAY, (2, 9, 0, 0, 0)), [-4, 1]), (clash_call(SATURDAY[:4]), [-2]), (clash_call((2, 9, 0, 0, 0)), [-4, 0]),
    (find_call(3, "Anna"), [-3]), (find_call(0, ""), [-3]), (holder_call(1, 10), [-3]), (holder_call(0, 9), [-4]),
    (highest_call(0, -1), [-3]), (highest_call(0, 21), [-4]), (ride_call(0, 2), [-3]), (ride_call(1, 0), [-4]),
    (can_call(-1, 3, 2, 0), [-4]), (can_call(-1, 3, 1, 0), [-3]), (spans_call((0, 0)), [-2]), (spans_call((0, 1, 0)), [-4, 0]),
    (barred_call((0, 0)), [-2]), (barred_call((0, 0, 0), (4, 0, 0)), [-4, 1]),
)
EACH = [call for call, said in ASKED]


def joined(calls):
    return [number for call in calls for number in call]


class Watched(list):
    """A list that can be read alone."""

    def refuse(self, *arguments):
        raise AssertionError("what is handed in was changed")

    append = extend = insert = pop = remove = clear = reverse = sort = refuse
    __setitem__ = __delitem__ = __iadd__ = __imul__ = refuse


class CallsTest(unittest.TestCase):
    def test_no_call(self):
        self.assertEqual(answers([]), [])

    def test_each_answer_has_its_length_before_it(self):
        self.assertEqual(answers([1, 1, 1, 1]), [1, 0])
        self.assertEqual(answers([2, 0]), [5, 0, 1, 1, 1, 5])
        self.assertEqual(answers([3, 1]), [1, 85])
        self.assertEqual(answers([4, 0]), [4, 0, 1, 0, 1])
        self.assertEqual(answers([5, 2, 1, 1] + [0] * 10), [1, 0])
        self.assertEqual(answers([5, 2, 0, 1] + [0] * 10), [4, -7, 1, 1, 0])
        self.assertEqual(answers([5] + [0] * 11), [1, -2])
        self.assertEqual(answers([6, 0, 1]), [1, -3])
        self.assertEqual(answers([7, 0, 1]), [1, -3])
        self.assertEqual(answers([8, 0, 0]), [1, 1])
        self.assertEqual(answers([9, 0, 5, 2, 5, 0, 0, 0]), [1, 1])
        self.assertEqual(answers([9, 0, 0]), [1, -4])
        self.assertEqual(answers([2, -1]), [1, -3])
        self.assertEqual(answers([10, 5, 0, 1, 3, 0, 0]), [2, 1, 2])
        self.assertEqual(answers([10, 1, 0]), [1, -2])
        self.assertEqual(answers([10, 5, 10, 0, 0, 0, 0]), [2, -4, 0])
        self.assertEqual(answers([11, 10, 0, 1, 3, 0, 0, 0, 1, 4, 0, 0]), [3, 2, 0, 1])
        self.assertEqual(answers([11, 0]), [1, 0])
        self.assertEqual(answers([12, 0, 1, 65]), [1, -3])
        self.assertEqual(answers([13, 0, 0]), [1, -3])
        self.assertEqual(answers([14, 0, 0]), [1, -3])
        self.assertEqual(answers([15, 0, 0]), [1, -3])
        self.assertEqual(answers([16, 0, 3, 0, 0, 0]), [1, -4])
        self.assertEqual(answers([17, 0]), [3, 1, 0, 364])
        self.assertEqual(answers([17, 3, 0, 0, 0]), [2, -4, 0])
        self.assertEqual(answers([18, 0]), [1, 0])
        self.assertEqual(answers([18, 2, 0, 0]), [1, -2])

    def test_rows_stand_in_their_order(self):
        line = [5, 2, 1200, 1201, 4, 0, 6, 24, 0, 2, 7, 9, 2, 0, 50, 1, 65, 1, 97, 4, 0, 0, 3, 4, 2, 1, 2, 3, 65, 32, 66]
        line += [3, 0, 1, 4, 4, 5, 0, 9, 1]
        self.assertEqual(answers(line + [7, 0, 8, 6, 0, 1]), [1, 0, 1, 1, 1, 174])

    def test_one_of_each(self):
        self.assertEqual(ask(BOOK, *EACH), [[0]] + [said for call, said in ASKED])
        self.assertEqual({call[0] for call in EACH}, set(range(1, 19)))

    def test_four_hundred_calls(self):
        self.assertEqual(answers([2, 0] * 400), [5, 0, 1, 1, 1, 5] * 400)
        calls = [[1, 1, 1, d] for d in range(1, 32)] * 12
        self.assertEqual(ask(*calls), [[d] for d in range(31)] * 12)

    def test_four_hundred_calls_of_all_kinds(self):
        asked = [ASKED[k * 7 % len(ASKED)] for k in range(399)]
        self.assertEqual(ask(BOOK, *[call for call, said in asked])[1:], [said for call, said in asked])

    def test_four_hundred_times_all_days_of_a_book(self):
        said = ask(set_call(head=[1998, 2000]), *[means_call()] * 399)[1:]
        self.assertEqual(said, [[1096, *range(LAST_DAY - 1095, LAST_DAY + 1)]] * 399)

    def test_as_many_marks_and_claims_as_a_line_holds(self):
        # On the leap day of 1200, a Tuesday, the first seven marks are true.
        marks = [(0, 2, 29, 0, 0), (1, 3, 0, 0, 2), (2, 1, 0, 0, 0), (3, 0, 0, 0, 1200), (4, 0, 0, 0, 3), (4, 1, 0, 0, 3)]
        marks += [(8, 0, 0, 0, 1200 % 19 + 1), (7, 0, 0, 0, 5)]
        self.assertEqual(ask(BOOK, *[clash_call(*marks)] * 370)[1:], [[1, 7]] * 370)
        self.assertEqual(ask(BOOK, *[means_call(*marks[:7])] * 370)[1:], [[1, NUMBERS[(1200, 2, 29)]]] * 370)
        claims = [(2, 0, 0)] * 7 + [(1, 0, 0)]
        self.assertEqual(ask(BOOK, *[barred_call(*claims)] * 399)[1:], [[1, 7]] * 399)

    def test_a_set_of_very_many_numbers(self):
        calls = [5, 2, 1, 1, 4000] + [0] * 4000 + [4000] + [0] * 4000 + [0] * 8
        self.assertEqual(answers(calls + [2, 0]), [4, -7, 1, 1, 1, 5, 0, 1, 1, 1, 5])

    def test_calls_after_a_set(self):
        said = ask(
            feast_call(0, 1200), BOOK, feast_call(0, 1), set_call(feasts=[0, 1, 1, 0]), feast_call(0, 1), year_call(0, 100),
            BOOK, feast_call(0, 1), year_call(0, 100), set_call(head=[3, 2]), feast_call(0, 1),
        )
        self.assertEqual(said, [[-3], [0], [174], [0], [0], [-3], [0], [174], [1], [-7, 1, 1, 0], [174]])

    def test_what_the_calendar_answers_does_not_hang_on_the_book(self):
        calls = [day_call(1200, 2, 29), tell_call(LAST_DAY), easter_call(1), roman_call(77), style_call(0, 4)]
        self.assertEqual(ask(*calls), ask(BOOK, *calls)[1:])

    def test_in_any_order(self):
        source = random.Random(7)
        for count in range(50):
            picked = [source.choice(ASKED) for k in range(100)]
            self.assertEqual(ask(BOOK, *[call for call, said in picked])[1:], [said for call, said in picked])


class NothingKeptTest(unittest.TestCase):
    def test_the_same_list_twice(self):
        line = joined(EACH)
        self.assertEqual(answers(line), answers(line))
        self.assertEqual(answers(line + line)[:len(answers(line))], answers(line))

    def test_a_new_object_each_time(self):
        self.assertEqual(ask(BOOK, feast_call(0, 1)), [[0], [174]])
        self.assertEqual(ask(feast_call(0, 1)), [[-3]])
        self.assertEqual(ask(has_call(0, 7, 0, 0, 0, 1)), [[-4]])
        self.assertEqual(ask(BOOK, ride_call(0, 1), find_call(0, "Anna"))[1:], [[3], [0]])
        self.assertEqual(ask(ride_call(0, 1), find_call(0, "Anna"), means_call((0, 1, 1, 0, 0))), [[-3], [-3], [1, 0]])

    def test_what_is_given_back_is_new(self):
        line = joined(EACH)
        first = answers(line)
        kept = list(first)
        first.clear()
        self.assertEqual(answers(line), kept)

    def test_the_list_is_unchanged(self):
        line = joined(EACH)
        copy = list(line)
        answers(line)
        self.assertEqual(line, copy)

    def test_the_list_is_never_changed_for_a_while(self):
        line = joined(EACH)
        self.assertEqual(answers(Watched(line)), answers(line))

    def test_what_is_given_back_is_a_list_of_whole_numbers(self):
        told = answers(joined(EACH))
        self.assertIs(type(told), list)
        self.assertEqual({type(number) for number in told}, {int})

    def test_it_prints_reads_and_imports_nothing(self):
        def refuse(*arguments, **more):
            raise AssertionError("printed, read, opened or imported")

        kept = {name: getattr(builtins, name) for name in ("print", "input", "open", "__import__")}
        try:
            for name in kept:
                setattr(builtins, name, refuse)
            answers(joined(EACH))
        finally:
            for name, value in kept.items():
                setattr(builtins, name, value)


if __name__ == "__main__":
    unittest.main()
