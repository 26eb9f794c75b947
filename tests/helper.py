"""How the tests spell calls and take answers apart."""

from regattapoints.regatta import answers

LARGEST = 4294967295
RACE = [2]
ORDER = [8]


def start(one=0, two=0, three=0):
    return [0, one, two, three]


def boat(rating=1000):
    return [1, rating]


def finish(race, number, seconds, fined=0):
    return [3, race, number, seconds, fined]


def note(race, number, kind):
    return [4, race, number, kind]


def points(race, number):
    return [5, race, number]


def total(number):
    return [6, number]


def place(number):
    return [7, number]


def fleet(*ratings, races=1, limits=(0, 0, 0)):
    """A start, a boat of each rating, and so many races."""
    return [start(*limits)] + [boat(rating) for rating in ratings] + [RACE] * races


def alike(boats, races=1, limits=(0, 0, 0)):
    """A start, so many boats of one rating, and so many races."""
    return fleet(*[1000] * boats, races=races, limits=limits)


def sail(race, *groups):
    """Boats of one rating finish, each group level and behind those before it."""
    return [finish(race, number, 100 + k) for k, group in enumerate(groups) for number in group]


def spell(calls):
    return [number for call in calls for number in call]


def split(answered):
    """The answer of each call, a list each."""
    parts = []
    position = 0
    while position < len(answered):
        behind = position + 1 + answered[position]
        parts.append(answered[position + 1:behind])
        position = behind
    return parts


def ask_lists(before, calls):
    """All numbers that each of the calls answers behind those before them."""
    parts = split(answers(spell(before + calls)))
    if len(parts) != len(before) + len(calls):
        raise AssertionError(f"{len(before) + len(calls)} calls, {len(parts)} answers")
    return parts[len(before):]


def ask(calls):
    """The one number that each of these calls answers."""
    parts = ask_lists([], calls)
    for part in parts:
        if len(part) != 1:
            raise AssertionError(f"not one number: {part}")
    return [part[0] for part in parts]


def ask_behind(before, calls):
    """What the calls answer behind those before them."""
    return ask(before + calls)[len(before):]


def ask_points(before, race, boats):
    """The points of so many boats in a race."""
    return ask_behind(before, [points(race, number) for number in range(boats)])


def ask_total(before, number):
    """All that total answers."""
    return ask_lists(before, [total(number)])[0]


def ask_places(before, boats):
    return ask_behind(before, [place(number) for number in range(boats)])


def ask_order(before):
    """All that order answers."""
    return ask_lists(before, [ORDER])[0]
