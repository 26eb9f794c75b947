"""Promise 9, over regattas drawn with a fixed seed, and the words of the document followed one by one beside them."""

import itertools
import random
import unittest
from fractions import Fraction

from regattapoints.regatta import answers
from tests.helper import (
    ORDER, RACE, ask_behind, ask_lists, boat, finish, fleet, note, place, points, spell, split, start, total,
)

LIMITS = [(0, 0, 0), (1, 0, 0), (3, 0, 0), (1, 2, 0), (2, 4, 0), (1, 2, 3), (2, 3, 5), (3, 4, 6)]


def draw_regatta(draw, most_boats=6, most_races=6, kinds=(0, 2, 3, 4, 5, 6, 7)):
    """How many boats and races, the limits, and the calls that tell of them; many boats are level."""
    boats = draw.randint(1, most_boats)
    races = draw.randint(0, most_races)
    limits = draw.choice(LIMITS)
    calls = fleet(*[draw.choice([500, 1000, 2000]) for number in range(boats)], races=races, limits=limits)
    for race in range(races):
        for number in range(boats):
            if draw.random() < 0.7:
                calls.append(finish(race, number, 100 * draw.randint(1, 4), int(draw.random() < 0.2)))
            else:
                calls.append(note(race, number, draw.choice(kinds)))
    return boats, races, limits, calls


def ask_table(calls, boats, races):
    """The points of each boat, race by race."""
    asked = ask_behind(calls, [points(race, number) for number in range(boats) for race in range(races)])
    return [asked[number * races:(number + 1) * races] for number in range(boats)]


def struck_out_for_good(calls, number):
    told = {call[1]: call for call in calls if call[0] in (3, 4) and call[2] == number}
    return [race for race, call in told.items() if call[0] == 4 and call[3] == 6]


def kept_points(row, bits):
    return [row[race] for race in range(len(row)) if not bits & 2 ** race]


def is_before(one, other):
    """Whether a boat is before another one; each is its total, the races it leaves out and its points."""
    if one[0] != other[0]:
        return one[0] < other[0]
    pairs = list(zip(sorted(kept_points(one[2], one[1])), sorted(kept_points(other[2], other[1]))))
    pairs += zip(reversed(one[2]), reversed(other[2]))
    for mine, theirs in pairs:
        if mine != theirs:
            return mine < theirs
    return False


class WhatHolds(unittest.TestCase):
    def test_all_points_of_a_race_together(self):
        draw = random.Random(1)
        for drawn in range(100):
            boats = draw.randint(1, 32)
            calls = fleet(*[draw.randint(500, 2000) // 500 * 500 for number in range(boats)])
            calls += [finish(0, number, 100 * draw.randint(1, 12)) for number in range(boats)]
            asked = ask_behind(calls, [points(0, number) for number in range(boats)])
            self.assertEqual(sum(asked), 20 * sum(range(1, boats + 1)), calls)

    def test_no_other_races_left_out_would_give_less(self):
        draw = random.Random(2)
        for drawn in range(150):
            boats, races, limits, calls = draw_regatta(draw)
            most = sum(1 for limit in limits if 0 < limit <= races)
            table = ask_table(calls, boats, races)
            for number in range(boats):
                asked = ask_lists(calls, [total(number)])[0]
                bound = struck_out_for_good(calls, number)
                free = [race for race in range(races) if race not in bound]
                choices = [out for many in range(most + 1) for out in itertools.combinations(free, many)]
                least = min(sum(table[number]) - sum(table[number][race] for race in out) for out in choices)
                self.assertEqual(asked[0], least, calls)
                self.assertEqual(asked[0], sum(kept_points(table[number], asked[1])), calls)
                self.assertEqual([race for race in bound if asked[1] & 2 ** race], [], calls)

    def test_of_two_boats_one_is_before_the_other_or_they_are_level(self):
        draw = random.Random(3)
        for drawn in range(150):
            boats, races, limits, calls = draw_regatta(draw, most_boats=9, most_races=4)
            table = ask_table(calls, boats, races)
            totals = ask_lists(calls, [total(number) for number in range(boats)])
            standings = [answer + [row] for answer, row in zip(totals, table)]
            places = ask_behind(calls, [place(number) for number in range(boats)])
            for one in range(boats):
                self.assertEqual(places[one], 1 + sum(is_before(other, standings[one]) for other in standings), calls)
                for other in range(boats):
                    before = is_before(standings[one], standings[other])
                    self.assertEqual(before, places[one] < places[other], calls)
            order = ask_lists(calls, [ORDER])[0]
            self.assertEqual(order, [boats] + sorted(range(boats), key=lambda number: (places[number], number)), calls)

    def test_who_is_before_one_that_is_before_a_third_is_before_that_one(self):
        draw = random.Random(4)
        for drawn in range(60):
            boats, races, limits, calls = draw_regatta(draw, most_boats=12, most_races=4)
            places = ask_behind(calls, [place(number) for number in range(boats)])
            # Only where "before" runs through can each place be one more than how many have a lesser one.
            self.assertEqual(places, [1 + sum(other < mine for other in places) for mine in places], calls)

    def test_fewer_seconds_never_bring_more_points(self):
        draw = random.Random(5)
        for drawn in range(150):
            boats, races, limits, calls = draw_regatta(draw, most_boats=9, most_races=3)
            if races == 0:
                continue
            race = draw.randrange(races)
            number = draw.randrange(boats)
            fined = draw.randint(0, 1)
            asked = []
            for seconds in [1000000, 1000, 401, 400, 399, 250, 200, 199, 150, 100, 50, 1]:
                asked += [finish(race, number, seconds, fined), points(race, number)]
            falling = ask_behind(calls, asked)[1::2]
            self.assertEqual(falling, sorted(falling, reverse=True), calls)


class Words:
    """The document's words, one by one and with fractions, slowly."""

    def __init__(self):
        self.limits, self.ratings, self.races = (0, 0, 0), [], 0
        self.told = {}

    def unfinished(self):
        return Fraction(len(self.ratings) + 1)

    def time(self, race, number):
        return self.told[race, number][1] * self.ratings[number]

    def finished(self, race):
        return [number for number in range(len(self.ratings)) if self.told.get((race, number), (0,))[0] == 1]

    def place_in(self, race, number):
        return 1 + sum(self.time(race, other) < self.time(race, number) for other in self.finished(race))

    def kind(self, race, number):
        return self.told.get((race, number), (0,))[0]

    def points_unless_made_good(self, race, number):
        if self.kind(race, number) != 1:
            return self.unfinished()
        level = sum(self.time(race, other) == self.time(race, number) for other in self.finished(race))
        first = self.place_in(race, number)
        shared = Fraction(sum(range(first, first + level)), level)
        if self.told[race, number][2]:
            more = (Fraction(len(self.ratings), 5) + Fraction(1, 2)).__floor__()
            shared = min(shared + more, self.unfinished())
        return shared

    def points(self, race, number):
        if self.kind(race, number) != 7:
            return self.points_unless_made_good(race, number)
        others = [other for other in range(self.races) if self.kind(other, number) != 7]
        if not others:
            return self.unfinished()
        mean = sum(self.points_unless_made_good(other, number) for other in others) / len(others)
        return Fraction((mean * 10 + Fraction(1, 2)).__floor__(), 10)

    def left_out(self, number):
        left = [race for race in range(self.races) if self.kind(race, number) != 6]
        out = []
        for limit in self.limits:
            if limit and self.races >= limit and left:
                most = max(self.points(race, number) for race in left)
                worst = [race for race in left if self.points(race, number) == most][0]
                left.remove(worst)
                out.append(worst)
        return out

    def standing(self, number):
        out = self.left_out(number)
        row = [self.points(race, number) for race in range(self.races)]
        bits = sum(2 ** race for race in out)
        return [sum(kept_points(row, bits), Fraction(0)), bits, row]

    def places(self):
        standings = [self.standing(number) for number in range(len(self.ratings))]
        return [1 + sum(is_before(other, mine) for other in standings) for mine in standings]

    def answer(self, call):
        number = call[0]
        return [
            self.start, self.boat, self.race, self.finish, self.note,
            self.ask_points, self.ask_total, self.ask_place, self.order,
        ][number](*call[1:])

    def start(self, *limits):
        used = [limit for limit in limits if limit]
        if list(limits) != used + [0] * (3 - len(used)) or used != sorted(set(used)) or max(limits) > 20:
            return [-22]
        self.limits, self.ratings, self.races, self.told = limits, [], 0, {}
        return [0]

    def boat(self, rating):
        if rating < 500 or rating > 2000:
            return [-22]
        if len(self.ratings) >= 32:
            return [-28]
        self.ratings.append(rating)
        return [len(self.ratings) - 1]

    def race(self):
        if self.races >= 20:
            return [-28]
        self.races += 1
        return [self.races - 1]

    def finish(self, race, number, seconds, fined):
        if race >= self.races or number >= len(self.ratings):
            return [-2]
        if seconds < 1 or seconds > 1000000 or fined > 1:
            return [-22]
        self.told[race, number] = (1, seconds, fined)
        return [self.place_in(race, number)]

    def note(self, race, number, kind):
        if race >= self.races or number >= len(self.ratings):
            return [-2]
        if kind == 1 or kind > 7:
            return [-22]
        self.told[race, number] = (kind,)
        return [0]

    def ask_points(self, race, number):
        if race >= self.races or number >= len(self.ratings):
            return [-2]
        return [int(self.points(race, number) * 20)]

    def ask_total(self, number):
        if number >= len(self.ratings):
            return [-2]
        standing = self.standing(number)
        return [int(standing[0] * 20), standing[1]]

    def ask_place(self, number):
        return [self.places()[number]] if number < len(self.ratings) else [-2]

    def order(self):
        places = self.places()
        boats = range(len(places))
        return [len(places)] + sorted(boats, key=lambda number: (places[number], number))


def draw_line(draw):
    """Calls of all nine sorts, some of them refused."""
    calls = [start(*draw.choice(LIMITS))]
    boats, races = draw.choice([(1, 1), (2, 3), (3, 2), (4, 5), (6, 4)])
    calls += [boat(draw.choice([500, 750, 1000])) for number in range(boats)] + [RACE] * races
    for drawn in range(draw.randint(5, 70)):
        race, number = draw.randint(0, races), draw.randint(0, boats)
        calls.append(draw.choice([
            finish(race, number, 60 * draw.randint(0, 8), draw.choice([0, 0, 0, 1, 1, 2])),
            finish(race, number, 60 * draw.randint(1, 5), 0),
            note(race, number, draw.randint(0, 8)),
            note(race, number, draw.choice([6, 7])),
            points(race, number), points(race, number), total(number), total(number), place(number), ORDER,
            draw.choice([boat(draw.choice([499, 500, 1000])), RACE, ORDER, place(number)]),
            draw.choice([start(*draw.choice(LIMITS)), start(3, 3), start(21)] + [ORDER] * 20),
        ]))
    return calls


class AsTheWordsSay(unittest.TestCase):
    def test_drawn_lines(self):
        draw = random.Random(6)
        for drawn in range(400):
            calls = draw_line(draw)
            words = Words()
            wanted = [words.answer(call) for call in calls]
            self.assertEqual(split(answers(spell(calls))), wanted, calls)

    def test_a_large_fleet(self):
        draw = random.Random(7)
        calls = fleet(*[draw.choice([500, 1000, 2000]) for number in range(32)], races=6, limits=(2, 4, 6))
        for race in range(6):
            for number in range(32):
                calls.append(finish(race, number, 10 * draw.randint(1, 30), int(draw.random() < 0.2)))
                if draw.random() < 0.2:
                    calls.append(note(race, number, draw.choice([0, 2, 3, 4, 5, 6, 7])))
        calls += [points(race, number) for race in range(6) for number in range(32)]
        calls += [total(number) for number in range(32)] + [ORDER]
        words = Words()
        wanted = [words.answer(call) for call in calls]
        self.assertTrue(split(answers(spell(calls))) == wanted)


if __name__ == "__main__":
    unittest.main()
