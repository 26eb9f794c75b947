"""Promise 4: note."""

import unittest

from tests.helper import LARGEST, RACE, ask, ask_behind, boat, finish, fleet, note, start

KINDS = [0, 2, 3, 4, 5, 6, 7]
NO_KINDS = [1, 8, 9, LARGEST]


class Note(unittest.TestCase):
    def test_none_at_all(self):
        self.assertEqual(ask([start(), note(0, 0, 2)]), [0, -2])
        self.assertEqual(ask([start(), RACE, note(0, 0, 2)]), [0, 0, -2])
        self.assertEqual(ask([start(), boat(), note(0, 0, 2)]), [0, 0, -2])

    def test_no_such_race_or_boat(self):
        before = fleet(1000, 1000, 1000, races=2)
        for race, number in [(2, 0), (LARGEST, 0), (0, 3), (0, LARGEST), (2, 3), (2, 2), (LARGEST, LARGEST)]:
            with self.subTest(race=race, number=number):
                self.assertEqual(ask_behind(before, [note(race, number, 2)]), [-2])
        self.assertEqual(ask_behind(before, [note(1, 2, 2)]), [0])

    def test_kinds(self):
        for kind in KINDS:
            with self.subTest(kind=kind):
                self.assertEqual(ask_behind(fleet(1000), [note(0, 0, kind)]), [0])

    def test_no_kinds(self):
        for kind in NO_KINDS:
            with self.subTest(kind=kind):
                self.assertEqual(ask_behind(fleet(1000), [note(0, 0, kind)]), [-22])

    def test_no_such_is_told_ahead_of_a_wrong_kind(self):
        for race, number in [(1, 0), (0, 1), (1, 1), (LARGEST, LARGEST)]:
            for kind in NO_KINDS:
                with self.subTest(race=race, number=number, kind=kind):
                    self.assertEqual(ask_behind(fleet(1000), [note(race, number, kind)]), [-2])

    def test_one_that_had_finished_no_longer_counts(self):
        for kind in KINDS:
            with self.subTest(kind=kind):
                before = fleet(1000, 1000, 1000) + [finish(0, 0, 100), finish(0, 1, 200)]
                self.assertEqual(ask_behind(before, [note(0, 0, kind), finish(0, 2, 300)]), [0, 2])

    def test_one_that_finishes_behind_a_note_counts(self):
        for kind in KINDS:
            with self.subTest(kind=kind):
                before = fleet(1000, 1000) + [note(0, 0, kind)]
                self.assertEqual(
                    ask_behind(before, [finish(0, 1, 200), finish(0, 0, 100), finish(0, 1, 200)]),
                    [1, 1, 2],
                )

    def test_finished_noted_and_finished_again(self):
        before = fleet(1000, 1000)
        self.assertEqual(
            ask_behind(before, [
                finish(0, 0, 100), finish(0, 1, 200), note(0, 0, 5), finish(0, 1, 200), finish(0, 0, 150),
                finish(0, 1, 200), note(0, 0, 0), finish(0, 1, 200),
            ]),
            [1, 2, 0, 1, 1, 2, 0, 1],
        )

    def test_note_is_for_one_boat_in_one_race(self):
        before = fleet(1000, 1000, 1000, races=2)
        before += [finish(race, number, 100) for race in range(2) for number in range(2)]
        self.assertEqual(ask_behind(before, [note(0, 0, 4), finish(0, 2, 200), finish(1, 2, 200)]), [0, 2, 3])

    def test_refused_note_leaves_what_was_told(self):
        for kind in NO_KINDS:
            with self.subTest(kind=kind):
                before = fleet(1000, 1000) + [finish(0, 0, 100)]
                self.assertEqual(ask_behind(before, [note(0, 0, kind), finish(0, 1, 200)]), [-22, 2])

    def test_refused_note_of_kind_1_does_not_make_it_finish(self):
        self.assertEqual(ask_behind(fleet(500, 1000), [note(0, 0, 1), finish(0, 1, 200)]), [-22, 1])


if __name__ == "__main__":
    unittest.main()
