"""Whatever is changed later, all of it follows; what is refused changes nothing."""

import unittest

from tests.helper import LARGEST, ORDER, RACE, alike, ask_lists, boat, finish, note, place, points, sail, start, total

# Three boats and two races, of which each boat leaves one out.
BEFORE = alike(3, races=2, limits=(2, 3, 0)) + sail(0, [0], [1], [2]) + sail(1, [0], [1], [2])


def ask_all(calls, boats, races):
    """Points of each boat race by race, what total answers of each, the places, and what order answers."""
    asked = [points(race, number) for number in range(boats) for race in range(races)]
    asked += [total(number) for number in range(boats)] + [place(number) for number in range(boats)] + [ORDER]
    answered = ask_lists(calls, asked)
    behind = boats * races
    rows = [[answered[number * races + race][0] for race in range(races)] for number in range(boats)]
    places = [answer[0] for answer in answered[behind + boats:behind + 2 * boats]]
    return rows, answered[behind:behind + boats], places, answered[-1]


class Follows(unittest.TestCase):
    def check(self, changes, rows, totals, places, order):
        """Asked ahead of the changes too, as what was answered then is not to be answered again."""
        asked_ahead = [points(0, 0), total(0), total(1), total(2), place(0), place(1), place(2), ORDER]
        self.assertEqual(
            ask_all(BEFORE + asked_ahead + changes, len(rows), len(rows[0])),
            (rows, totals, places, order),
        )

    def test_as_it_was(self):
        self.check([], [[20, 20], [40, 40], [60, 60]], [[20, 1], [40, 1], [60, 1]], [1, 2, 3], [3, 0, 1, 2])

    def test_a_finish(self):
        self.check(
            [finish(1, 2, 50)],
            [[20, 40], [40, 60], [60, 20]], [[20, 2], [40, 2], [20, 1]], [2, 3, 1], [3, 2, 0, 1],
        )

    def test_a_finish_fined(self):
        self.check(
            [finish(0, 0, 100, 1), finish(1, 0, 100, 1)],
            [[40, 40], [40, 40], [60, 60]], [[40, 1], [40, 1], [60, 1]], [1, 1, 3], [3, 0, 1, 2],
        )

    def test_a_finish_in_place_of_a_note(self):
        self.check(
            [note(1, 0, 6), ORDER, total(0), finish(1, 0, 102)],
            [[20, 50], [40, 20], [60, 50]], [[20, 2], [20, 1], [50, 1]], [2, 1, 3], [3, 1, 0, 2],
        )

    def test_a_note(self):
        self.check(
            [note(0, 0, 5)],
            [[80, 20], [20, 40], [40, 60]], [[20, 1], [20, 2], [40, 2]], [1, 2, 3], [3, 0, 1, 2],
        )

    def test_a_note_of_struck_out_for_good(self):
        self.check(
            [note(0, 0, 6)],
            [[80, 20], [20, 40], [40, 60]], [[80, 2], [20, 2], [40, 2]], [3, 1, 2], [3, 1, 2, 0],
        )

    def test_a_note_of_made_good(self):
        self.check(
            [note(0, 2, 7), finish(1, 2, 50)],
            [[20, 40], [40, 60], [20, 20]], [[20, 2], [40, 2], [20, 1]], [2, 3, 1], [3, 2, 0, 1],
        )

    def test_a_note_of_nothing(self):
        self.check(
            [note(race, 0, 0) for race in range(2)],
            [[80, 80], [20, 20], [40, 40]], [[80, 1], [20, 1], [40, 1]], [3, 1, 2], [3, 1, 2, 0],
        )

    def test_a_new_boat(self):
        self.check(
            [note(0, 2, 4), ORDER, boat()],
            [[20, 20], [40, 40], [100, 60], [100, 100]],
            [[20, 1], [40, 1], [60, 1], [100, 1]], [1, 2, 3, 4], [4, 0, 1, 2, 3],
        )

    def test_a_new_boat_makes_a_fine_more(self):
        self.check(
            [finish(0, 0, 100, 1), finish(1, 0, 100, 1), ORDER] + [boat()] * 5,
            [[60, 60], [40, 40], [60, 60]] + [[180, 180]] * 5,
            [[60, 1], [40, 1], [60, 1]] + [[180, 1]] * 5,
            [2, 1, 2, 4, 4, 4, 4, 4], [8, 1, 0, 2, 3, 4, 5, 6, 7],
        )

    def test_a_new_race(self):
        self.check(
            [RACE],
            [[20, 20, 80], [40, 40, 80], [60, 60, 80]], [[20, 5], [40, 5], [60, 5]], [1, 2, 3], [3, 0, 1, 2],
        )

    def test_a_new_race_that_is_sailed(self):
        self.check(
            [RACE, ORDER] + sail(2, [2], [1], [0]),
            [[20, 20, 60], [40, 40, 40], [60, 60, 20]], [[20, 5], [40, 3], [20, 3]], [2, 3, 1], [3, 2, 0, 1],
        )

    def test_a_new_race_changes_what_is_made_good(self):
        self.check(
            [note(0, 0, 7), total(0), RACE],
            [[50, 20, 80], [20, 40, 80], [40, 60, 80]], [[20, 5], [20, 6], [40, 6]], [1, 2, 3], [3, 0, 1, 2],
        )

    def test_a_new_start_with_other_limits(self):
        told = [boat(), boat(), RACE, RACE] + sail(0, [0], [1]) + sail(1, [0], [1])
        rows = [[20, 20], [40, 40]]
        self.check([start()] + told, rows, [[40, 0], [80, 0]], [1, 2], [2, 0, 1])
        self.check([start(1, 0, 0)] + told, rows, [[20, 1], [40, 1]], [1, 2], [2, 0, 1])
        self.check([start(1, 2, 0)] + told, rows, [[0, 3], [0, 3]], [1, 2], [2, 0, 1])
        self.check([start(3, 4, 5)] + told, rows, [[40, 0], [80, 0]], [1, 2], [2, 0, 1])

    def test_a_new_start_forgets_what_was_told(self):
        self.check([start(), boat(), RACE], [[40]], [[40, 0]], [1], [1, 0])
        asked = [points(0, 0), total(0), place(0), ORDER]
        self.assertEqual(ask_lists(BEFORE + [start()], asked), [[-2], [-2], [-2], [0]])


class RefusedChangesNothing(unittest.TestCase):
    REFUSED = [
        start(21), start(1, 1), start(0, 1), start(LARGEST, LARGEST, LARGEST),
        boat(499), boat(2001), boat(LARGEST),
        finish(2, 0, 100), finish(0, 3, 100), finish(1, 0, 0), finish(1, 0, 1000001), finish(1, 0, 500, 2),
        finish(0, 2, 1, 2), finish(0, 2, LARGEST),
        note(2, 0, 6), note(0, 3, 6), note(0, 0, 1), note(0, 0, 8), note(1, 2, LARGEST),
        points(2, 0), points(0, 3), total(3), place(3),
    ]

    def test_refused(self):
        wanted = ask_all(BEFORE, 3, 2)
        for call in self.REFUSED:
            with self.subTest(call=call):
                self.assertLess(ask_lists(BEFORE, [call])[0][0], 0)
                self.assertEqual(ask_all(BEFORE + [call], 3, 2), wanted)
        self.assertEqual(ask_all(BEFORE + self.REFUSED, 3, 2), wanted)

    def test_no_room_for_a_boat_or_race(self):
        before = alike(32, races=20, limits=(4, 8, 20)) + [finish(race, 31 - race, 100, 1) for race in range(20)]
        wanted = ask_all(before, 32, 20)
        self.assertEqual(ask_lists(before, [boat(), RACE]), [[-28], [-28]])
        self.assertEqual(ask_all(before + [boat(), RACE], 32, 20), wanted)

    def test_refused_ahead_of_the_boat_or_race_is_not_kept_for_it(self):
        wanted = ask_all(BEFORE + [boat(), RACE], 4, 3)
        refused = [finish(2, 0, 100), finish(0, 3, 50, 1), note(2, 1, 6), note(1, 3, 7)]
        self.assertEqual(ask_all(BEFORE + refused + [boat(), RACE], 4, 3), wanted)


if __name__ == "__main__":
    unittest.main()
