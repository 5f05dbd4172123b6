"""The list of calls: how it's read, what is given back, that it stays as it was and nothing is kept."""

import builtins
import random
import unittest

from chancerydays.books import answers
from tests.support import (
    LAST_DAY, ask, day_call, easter_call, feast_call, has_call, roman_call, set_call, style_call, tell_call, year_call,
)

BOOK = set_call(
    head=[1200, 1202], feasts=[0, 6, 24, 0, 1, 0, 0, 49], reigns=[100, 2000], lives=[0, 1000], persons="Anna",
    offices="notary", holds=[0, 0, 10, 20], seals=[0, 10], places="Ghent Bruges", ways=[0, 1, 3], seens=[10, 0, 13, 1],
)
EACH = [
    day_call(1, 1, 1), tell_call(5), easter_call(1), roman_call(0), BOOK, feast_call(0, 1), year_call(0, 100),
    style_call(0, 1), has_call(0, 2, 5, 0, 0, 0), day_call(1, 2, 29), tell_call(-1), easter_call(0), roman_call(-1),
    set_call(head=[0, 0]), set_call(head=[]), feast_call(9, 1), year_call(9, 1), style_call(0, 6), has_call(0),
    has_call(-1, 2, 5, 0, 0, 0),
]


def joined(calls):
    return [number for call in calls for number in call]


class Watched(list):
    """A list that can be read alone."""

    def refuse(self, *arguments):
        raise AssertionError("what is handed in was changed")

    append = extend = insert = pop = remove = clear = reverse = sort = refuse
    __setitem__ = __delitem__ = __iadd__ = __imul__ = refuse


class CallsTest(unittest.TestCase):
    def test_no_call(self):
        self.assertEqual(answers([]), [])

    def test_each_answer_has_its_length_before_it(self):
        self.assertEqual(answers([1, 1, 1, 1]), [1, 0])
        self.assertEqual(answers([2, 0]), [5, 0, 1, 1, 1, 5])
        self.assertEqual(answers([3, 1]), [1, 85])
        self.assertEqual(answers([4, 0]), [4, 0, 1, 0, 1])
        self.assertEqual(answers([5, 2, 1, 1] + [0] * 10), [1, 0])
        self.assertEqual(answers([5, 2, 0, 1] + [0] * 10), [4, -7, 1, 1, 0])
        self.assertEqual(answers([5] + [0] * 11), [1, -2])
        self.assertEqual(answers([6, 0, 1]), [1, -3])
        self.assertEqual(answers([7, 0, 1]), [1, -3])
        self.assertEqual(answers([8, 0, 0]), [1, 1])
        self.assertEqual(answers([9, 0, 5, 2, 5, 0, 0, 0]), [1, 1])
        self.assertEqual(answers([9, 0, 0]), [1, -4])
        self.assertEqual(answers([2, -1]), [1, -3])

    def test_rows_stand_in_their_order(self):
        line = [5, 2, 1200, 1201, 4, 0, 6, 24, 0, 2, 7, 9, 2, 0, 50, 1, 65, 1, 97, 4, 0, 0, 3, 4, 2, 1, 2, 3, 65, 32, 66]
        line += [3, 0, 1, 4, 4, 5, 0, 9, 1]
        self.assertEqual(answers(line + [7, 0, 8, 6, 0, 1]), [1, 0, 1, 1, 1, 174])

    def test_one_of_each(self):
        said = [[0], [0, 1, 1, 6, 3], [85], [0, 1, 0, 1], [0], [174], [1], [0], [1]]
        said += [[-3], [-3], [-3], [-3], [-7, 1, 1, 0], [-2], [-3], [-3], [-3], [-4], [-3]]
        self.assertEqual(ask(*EACH), said)

    def test_four_hundred_calls(self):
        self.assertEqual(answers([2, 0] * 400), [5, 0, 1, 1, 1, 5] * 400)
        calls = [[1, 1, 1, d] for d in range(1, 32)] * 12
        self.assertEqual(ask(*calls), [[d] for d in range(31)] * 12)

    def test_a_set_of_very_many_numbers(self):
        calls = [5, 2, 1, 1, 4000] + [0] * 4000 + [4000] + [0] * 4000 + [0] * 8
        self.assertEqual(answers(calls + [2, 0]), [4, -7, 1, 1, 1, 5, 0, 1, 1, 1, 5])

    def test_calls_after_a_set(self):
        said = ask(
            feast_call(0, 1200), BOOK, feast_call(0, 1), set_call(feasts=[0, 1, 1, 0]), feast_call(0, 1), year_call(0, 100),
            BOOK, feast_call(0, 1), year_call(0, 100), set_call(head=[3, 2]), feast_call(0, 1),
        )
        self.assertEqual(said, [[-3], [0], [174], [0], [0], [-3], [0], [174], [1], [-7, 1, 1, 0], [174]])

    def test_what_the_calendar_answers_does_not_hang_on_the_book(self):
        calls = [day_call(1200, 2, 29), tell_call(LAST_DAY), easter_call(1), roman_call(77), style_call(0, 4)]
        self.assertEqual(ask(*calls), ask(BOOK, *calls)[1:])

    def test_in_any_order(self):
        source = random.Random(7)
        alone = [ask(BOOK, call)[1] for call in EACH]
        for count in range(50):
            picked = [source.randrange(len(EACH)) for k in range(100)]
            self.assertEqual(ask(BOOK, *[EACH[k] for k in picked])[1:], [alone[k] for k in picked])


class NothingKeptTest(unittest.TestCase):
    def test_the_same_list_twice(self):
        line = joined(EACH)
        self.assertEqual(answers(line), answers(line))
        self.assertEqual(answers(line + line)[:len(answers(line))], answers(line))

    def test_a_new_object_each_time(self):
        self.assertEqual(ask(BOOK, feast_call(0, 1)), [[0], [174]])
        self.assertEqual(ask(feast_call(0, 1)), [[-3]])
        self.assertEqual(ask(has_call(0, 7, 0, 0, 0, 1)), [[-4]])

    def test_what_is_given_back_is_new(self):
        line = joined(EACH)
        first = answers(line)
        kept = list(first)
        first.clear()
        self.assertEqual(answers(line), kept)

    def test_the_list_is_unchanged(self):
        line = joined(EACH)
        copy = list(line)
        answers(line)
        self.assertEqual(line, copy)

    def test_the_list_is_never_changed_for_a_while(self):
        line = joined(EACH)
        self.assertEqual(answers(Watched(line)), answers(line))

    def test_what_is_given_back_is_a_list_of_whole_numbers(self):
        told = answers(joined(EACH))
        self.assertIs(type(told), list)
        self.assertEqual({type(number) for number in told}, {int})

    def test_it_prints_and_reads_nothing(self):
        def refuse(*arguments, **more):
            raise AssertionError("printed, read or opened")

        kept = {name: getattr(builtins, name) for name in ("print", "input", "open")}
        try:
            for name in kept:
                setattr(builtins, name, refuse)
            answers(joined(EACH))
        finally:
            for name, value in kept.items():
                setattr(builtins, name, value)


if __name__ == "__main__":
    unittest.main()
