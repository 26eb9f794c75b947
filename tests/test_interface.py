"""The interface: how calls and answers are spelled, and what is left alone."""

import contextlib
import io
import unittest

import regattapoints.regatta
from regattapoints.regatta import answers
from tests.helper import (
    LARGEST, ORDER, RACE, alike, boat, finish, fleet, note, place, points, sail, spell, start, total,
)

# All nine calls; each with what it answers.
TOLD = [
    (start(21), [-22]), (start(2, 4), [0]), (ORDER, [0]), (total(0), [-2]), (boat(800), [0]), (boat(499), [-22]),
    (RACE, [0]), (boat(900), [1]), (finish(0, 1, 100), [1]), (finish(0, 0, 200, 1), [2]), (finish(1, 0, 200), [-2]),
    (points(0, 0), [40]), (total(0), [40, 0]), (place(0), [2]), (ORDER, [2, 1, 0]),
    (note(0, 1, 4), [0]), (note(0, 1, 1), [-22]), (points(0, 1), [60]), (total(1), [60, 0]), (place(1), [2]),
    (RACE, [1]), (total(1), [60, 1]), (points(1, 2), [-2]), (total(2), [-2]), (place(2), [-2]),
    (note(0, 1, 6), [0]), (total(1), [60, 2]), (ORDER, [2, 0, 1]), (finish(0, 0, 200), [1]),
    (start(1, 1), [-22]), (RACE, [2]), (start(1), [0]), (ORDER, [0]), (boat(), [0]), (ORDER, [1, 0]),
    (RACE, [0]), (total(0), [0, 1]),
]
CALLS = spell([call for call, answer in TOLD])
ANSWERS = [number for call, answer in TOLD for number in [len(answer)] + answer]
OTHER_CALLS = spell(
    alike(3, races=3, limits=(1, 2, 3)) + sail(0, [0], [1], [2]) + [points(0, 2), total(1), place(2), ORDER]
)


def long_calls():
    """A list of 4000 calls, and what they are answered."""
    calls = spell(fleet(*[1000] * 32, races=20))
    wanted = [1, 0]
    for number in list(range(32)) + list(range(20)):
        wanted += [1, number]
    for k in range(4000 - 53):
        calls += finish(k % 20, 5, 1000000 - k, k % 2)
        wanted += [1, 1]
    return calls, wanted


def long_calls_of_all_sorts():
    """A list of 4000 calls on 32 boats and 20 races, and what they are answered."""
    told = [(start(5, 10, 20), [0])]
    told += [(boat(1000 + number), [number]) for number in range(32)] + [(RACE, [race]) for race in range(20)]
    told += [(finish(race, number, 500), [number + 1]) for race in range(20) for number in range(32)]
    left_out = 2 ** 0 + 2 ** 1 + 2 ** 2
    k = 0
    while len(told) < 3999:
        number = k % 32
        told.append([
            (finish(k % 20, number, 500), [number + 1]),
            (points(k % 20, number), [20 * number + 20]),
            (total(number), [17 * (20 * number + 20), left_out]),
            (place(number), [number + 1]),
            (ORDER, [32] + list(range(32))),
            (points(20, number), [-2]),
            (total(32 + number), [-2]),
        ][k % 7])
        k += 1
    told.append((ORDER, [32] + list(range(32))))
    calls = spell([call for call, answer in told])
    return calls, [number for call, answer in told for number in [len(answer)] + answer]


class WatchedList(list):
    """A list that refuses to be changed."""

    def refuse(self, *given, **named):
        raise AssertionError("the list that was handed in was changed")

    append = clear = extend = insert = pop = remove = reverse = sort = refuse
    __setitem__ = __delitem__ = __iadd__ = __imul__ = refuse


class Interface(unittest.TestCase):
    def assert_long_answers(self, calls, wanted):
        # assertEqual would work out a diff of thousands of rows, which can run for many minutes.
        answered = answers(calls)
        self.assertEqual(len(answered), len(wanted))
        wrong = [k for k in range(len(wanted)) if answered[k] != wanted[k]]
        self.assertEqual(wrong[:5], [])

    def test_how_many_numbers_then_these(self):
        self.assertEqual(answers(list(CALLS)), ANSWERS)

    def test_one_call(self):
        self.assertEqual(answers([0, 0, 0, 0]), [1, 0])
        self.assertEqual(answers([0, 3, 2, 1]), [1, -22])
        self.assertEqual(answers([0, LARGEST, LARGEST, LARGEST]), [1, -22])

    def test_4000_calls(self):
        calls, wanted = long_calls()
        self.assert_long_answers(calls, wanted)

    def test_4000_calls_of_all_sorts(self):
        calls, wanted = long_calls_of_all_sorts()
        self.assert_long_answers(calls, wanted)

    def test_4000_starts(self):
        self.assert_long_answers([0, 21, 0, 0] * 3999 + [0, 1, 2, 3], [1, -22] * 3999 + [1, 0])

    def test_all_nine_calls_are_among_them(self):
        self.assertEqual(sorted(set(call[0] for call, answer in TOLD)), list(range(9)))

    def test_numbers_are_plain_whole_numbers_in_a_list(self):
        answered = answers(list(CALLS))
        self.assertIs(type(answered), list)
        self.assertEqual([number for number in answered if type(number) is not int], [])

    def test_the_list_handed_in_stays_as_it_was(self):
        calls = list(CALLS)
        answers(calls)
        self.assertEqual(calls, CALLS)

    def test_the_list_handed_in_is_not_changed_for_a_while_either(self):
        self.assertEqual(answers(WatchedList(CALLS)), ANSWERS)

    def test_what_is_given_back_is_a_list_of_its_own(self):
        first = answers(list(CALLS))
        first.append(99)
        self.assertEqual(answers(list(CALLS)), ANSWERS)

    def test_the_same_list_twice(self):
        calls = list(CALLS)
        self.assertEqual(answers(calls), ANSWERS)
        self.assertEqual(answers(calls), ANSWERS)

    def test_the_same_list_with_another_between(self):
        calls = list(CALLS)
        between = list(OTHER_CALLS)
        first = answers(between)
        self.assertEqual(answers(calls), ANSWERS)
        self.assertEqual(answers(between), first)
        self.assertEqual(answers(calls), ANSWERS)

    def test_nothing_is_printed(self):
        printed = io.StringIO()
        with contextlib.redirect_stdout(printed), contextlib.redirect_stderr(printed):
            answers(list(CALLS))
        self.assertEqual(printed.getvalue(), "")

    def test_nothing_is_imported_and_no_built_in_reader_is_named(self):
        with open(regattapoints.regatta.__file__, encoding="ascii") as file:
            words = file.read().replace("(", " ").split()
        self.assertEqual([word for word in words if word in ("import", "open", "input", "print")], [])


if __name__ == "__main__":
    unittest.main()
