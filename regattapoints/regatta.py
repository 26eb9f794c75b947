"""A regatta scored: the calls on one regatta, and what they answer."""

NO_SUCH = -2
NOT_AS_TOLD = -22
NO_ROOM = -28

MOST_BOATS = 32
MOST_RACES = 20
HIGHEST_LIMIT = 20
LEAST_RATING = 500
MOST_RATING = 2000
MOST_SECONDS = 1000000

FINISHED = 1
LAST_KIND = 7

# What is told of a boat in a race: its kind, its seconds, fined or not.
NOTHING_TOLD = (0, 0, 0)

START = 0
BOAT = 1
RACE = 2
FINISH = 3

# How many numbers stand behind each call's own number: start, boat, race, finish, note.
WIDTHS = (3, 1, 0, 4, 3)


def limits_are_as_told(limits):
    """Whether each limit is 1 to 20 and above the one before, or 0, as are all behind it."""
    before = 0
    for limit in limits:
        if limit == 0:
            # No limit can be above the highest, so only a 0 can stand behind a 0.
            before = HIGHEST_LIMIT
        elif before < limit <= HIGHEST_LIMIT:
            before = limit
        else:
            return False
    return True


class Regatta:
    """The boats, the races, and what is told of each boat in each race."""

    def __init__(self):
        self.limits = (0, 0, 0)
        self.ratings = []
        self.race_count = 0
        self.told = {}

    def start(self, limits):
        if not limits_are_as_told(limits):
            return NOT_AS_TOLD
        self.limits = limits
        self.ratings = []
        self.race_count = 0
        self.told = {}
        return 0

    def add_boat(self, rating):
        if not LEAST_RATING <= rating <= MOST_RATING:
            return NOT_AS_TOLD
        if len(self.ratings) == MOST_BOATS:
            return NO_ROOM
        self.ratings.append(rating)
        return len(self.ratings) - 1

    def add_race(self):
        if self.race_count == MOST_RACES:
            return NO_ROOM
        self.race_count += 1
        return self.race_count - 1

    def finish(self, race, boat, seconds, fined):
        if not self.has(race, boat):
            return NO_SUCH
        if not 1 <= seconds <= MOST_SECONDS or fined > 1:
            return NOT_AS_TOLD
        self.told[(race, boat)] = (FINISHED, seconds, fined)
        return self.place_in_race(race, boat)

    def note(self, race, boat, kind):
        if not self.has(race, boat):
            return NO_SUCH
        if kind == FINISHED or kind > LAST_KIND:
            return NOT_AS_TOLD
        self.told[(race, boat)] = (kind, 0, 0)
        return 0

    def has(self, race, boat):
        return race < self.race_count and boat < len(self.ratings)

    def told_of(self, race, boat):
        # A pair with no entry is one of which nothing was told yet, so a new race or boat needs none.
        return self.told.get((race, boat), NOTHING_TOLD)

    def has_finished(self, race, boat):
        return self.told_of(race, boat)[0] == FINISHED

    def time_corrected(self, race, boat):
        return self.told_of(race, boat)[1] * self.ratings[boat]

    def place_in_race(self, race, boat):
        """The place of a boat that finished; a fine weighs on its points, not on its place."""
        own_time = self.time_corrected(race, boat)
        place = 1
        for other in range(len(self.ratings)):
            if self.has_finished(race, other) and self.time_corrected(race, other) < own_time:
                place += 1
        return place


def answer_call(regatta, call, given):
    """All numbers that one call answers."""
    if call == START:
        return [regatta.start((given[0], given[1], given[2]))]
    if call == BOAT:
        return [regatta.add_boat(given[0])]
    if call == RACE:
        return [regatta.add_race()]
    if call == FINISH:
        return [regatta.finish(given[0], given[1], given[2], given[3])]
    # WIDTHS knows no other call, so what is left is a note.
    return [regatta.note(given[0], given[1], given[2])]


def answers(calls):
    """For each call, in order, how many numbers it answers, then these."""
    regatta = Regatta()
    answered = []
    position = 0
    while position < len(calls):
        call = calls[position]
        behind = position + 1 + WIDTHS[call]
        answer = answer_call(regatta, call, calls[position + 1:behind])
        answered.append(len(answer))
        answered.extend(answer)
        position = behind
    return answered
