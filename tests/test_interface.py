"""The interface: how calls and answers are spelled, and what is left alone."""

import contextlib
import io
import unittest

import regattapoints.regatta
from regattapoints.regatta import answers
from tests.helper import LARGEST, RACE, boat, finish, fleet, note, spell, start

CALLS = spell([
    start(21), start(2, 4), boat(800), boat(499), RACE, boat(900), finish(0, 1, 100), finish(0, 0, 200, 1),
    finish(1, 0, 200), note(0, 1, 4), note(0, 1, 1), finish(0, 0, 200), start(1, 1), RACE,
])
ANSWERS = [1, -22, 1, 0, 1, 0, 1, -22, 1, 0, 1, 1, 1, 1, 1, 2, 1, -2, 1, 0, 1, -22, 1, 1, 1, -22, 1, 1]
OTHER_CALLS = spell(fleet(1000, 1000, 1000, races=3) + [finish(0, 0, 1), finish(0, 1, 2), finish(0, 2, 3)])


def long_calls():
    """A list of 4000 calls, and what they are answered."""
    calls = spell(fleet(*[1000] * 32, races=20))
    wanted = [1, 0]
    for number in list(range(32)) + list(range(20)):
        wanted += [1, number]
    for k in range(4000 - 53):
        calls += finish(k % 20, 5, 1000000 - k, k % 2)
        wanted += [1, 1]
    return calls, wanted


class WatchedList(list):
    """A list that refuses to be changed."""

    def refuse(self, *given, **named):
        raise AssertionError("the list that was handed in was changed")

    append = clear = extend = insert = pop = remove = reverse = sort = refuse
    __setitem__ = __delitem__ = __iadd__ = __imul__ = refuse


class Interface(unittest.TestCase):
    def assert_long_answers(self, calls, wanted):
        # assertEqual would work out a diff of thousands of rows, which can run for many minutes.
        answered = answers(calls)
        self.assertEqual(len(answered), len(wanted))
        wrong = [k for k in range(len(wanted)) if answered[k] != wanted[k]]
        self.assertEqual(wrong[:5], [])

    def test_how_many_numbers_then_these(self):
        self.assertEqual(answers(list(CALLS)), ANSWERS)

    def test_one_call(self):
        self.assertEqual(answers([0, 0, 0, 0]), [1, 0])
        self.assertEqual(answers([0, 3, 2, 1]), [1, -22])
        self.assertEqual(answers([0, LARGEST, LARGEST, LARGEST]), [1, -22])

    def test_4000_calls(self):
        calls, wanted = long_calls()
        self.assert_long_answers(calls, wanted)

    def test_4000_starts(self):
        self.assert_long_answers([0, 21, 0, 0] * 3999 + [0, 1, 2, 3], [1, -22] * 3999 + [1, 0])

    def test_numbers_are_plain_whole_numbers_in_a_list(self):
        answered = answers(list(CALLS))
        self.assertIs(type(answered), list)
        self.assertEqual([number for number in answered if type(number) is not int], [])

    def test_the_list_handed_in_stays_as_it_was(self):
        calls = list(CALLS)
        answers(calls)
        self.assertEqual(calls, CALLS)

    def test_the_list_handed_in_is_not_changed_for_a_while_either(self):
        self.assertEqual(answers(WatchedList(CALLS)), ANSWERS)

    def test_what_is_given_back_is_a_list_of_its_own(self):
        first = answers(list(CALLS))
        first.append(99)
        self.assertEqual(answers(list(CALLS)), ANSWERS)

    def test_the_same_list_twice(self):
        calls = list(CALLS)
        self.assertEqual(answers(calls), ANSWERS)
        self.assertEqual(answers(calls), ANSWERS)

    def test_the_same_list_with_another_between(self):
        calls = list(CALLS)
        between = list(OTHER_CALLS)
        first = answers(between)
        self.assertEqual(answers(calls), ANSWERS)
        self.assertEqual(answers(between), first)
        self.assertEqual(answers(calls), ANSWERS)

    def test_nothing_is_printed(self):
        printed = io.StringIO()
        with contextlib.redirect_stdout(printed), contextlib.redirect_stderr(printed):
            answers(list(CALLS))
        self.assertEqual(printed.getvalue(), "")

    def test_nothing_is_imported_and_no_built_in_reader_is_named(self):
        with open(regattapoints.regatta.__file__, encoding="ascii") as file:
            words = file.read().replace("(", " ").split()
        self.assertEqual([word for word in words if word in ("import", "open", "input", "print")], [])


if __name__ == "__main__":
    unittest.main()
