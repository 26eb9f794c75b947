"""How the tests spell calls and take answers apart."""

from regattapoints.regatta import answers

LARGEST = 4294967295
RACE = [2]


def start(one=0, two=0, three=0):
    return [0, one, two, three]


def boat(rating=1000):
    return [1, rating]


def finish(race, number, seconds, fined=0):
    return [3, race, number, seconds, fined]


def note(race, number, kind):
    return [4, race, number, kind]


def fleet(*ratings, races=1):
    """A start, a boat of each rating, and so many races."""
    return [start()] + [boat(rating) for rating in ratings] + [RACE] * races


def spell(calls):
    return [number for call in calls for number in call]


def split(answered):
    """The answer of each call, a list each."""
    parts = []
    position = 0
    while position < len(answered):
        behind = position + 1 + answered[position]
        parts.append(answered[position + 1:behind])
        position = behind
    return parts


def ask(calls):
    """The one number that each of these calls answers."""
    parts = split(answers(spell(calls)))
    if len(parts) != len(calls):
        raise AssertionError(f"{len(calls)} calls, {len(parts)} answers")
    for part in parts:
        if len(part) != 1:
            raise AssertionError(f"not one number: {part}")
    return [part[0] for part in parts]


def ask_behind(before, calls):
    """What the calls answer behind those before them."""
    return ask(before + calls)[len(before):]
