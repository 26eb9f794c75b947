"""A regatta scored: the calls on one regatta, and what they answer."""

NO_SUCH = -2
NOT_AS_TOLD = -22
NO_ROOM = -28

MOST_BOATS = 32
MOST_RACES = 20
HIGHEST_LIMIT = 20
LEAST_RATING = 500
MOST_RATING = 2000
MOST_SECONDS = 1000000

FINISHED = 1
STRUCK_OUT_FOR_GOOD = 6
MADE_GOOD = 7

# What is told of a boat in a race: its kind, its time corrected, fined or not.
NOTHING_TOLD = (0, 0, 0)

# Points are told in twentieths: what one point and a tenth of one are in these.
POINT = 20
TENTH = 2

START = 0
BOAT = 1
RACE = 2
FINISH = 3
NOTE = 4
POINTS = 5
TOTAL = 6
PLACE = 7

# How many numbers stand behind each call's own number, from start to order.
WIDTHS = (3, 1, 0, 4, 3, 2, 1, 1, 0)


def limits_are_as_told(limits):
    """Whether each limit is 1 to 20 and above the one before, or 0, as are all behind it."""
    before = 0
    for limit in limits:
        if limit == 0:
            # No limit can be above the highest, so only a 0 can stand behind a 0.
            before = HIGHEST_LIMIT
        elif before < limit <= HIGHEST_LIMIT:
            before = limit
        else:
            return False
    return True


def points_unfinished(boat_count):
    return POINT * (boat_count + 1)


def points_fined(boat_count):
    """A fifth of the number of all boats, to the nearest whole number, a half upwards."""
    return POINT * ((2 * boat_count + 5) // 10)


def points_finished(times, own_time):
    """The points of the places that all boats with this time share; the times are in order."""
    first = times.index(own_time) + 1
    last = first + times.count(own_time) - 1
    # The mean of places that follow one another is that of the first and the last.
    return POINT * (first + last) // 2


def points_sailed(told, times, boat_count):
    """The points in a race that is not made good."""
    if told[0] != FINISHED:
        return points_unfinished(boat_count)
    points = points_finished(times, told[1])
    if told[2] == 0:
        return points
    return min(points + points_fined(boat_count), points_unfinished(boat_count))


def points_made_good(sailed, boat_count):
    """The mean of the points in the races that are not made good, to the nearest tenth, a half upwards."""
    if len(sailed) == 0:
        return points_unfinished(boat_count)
    # A half is added ahead of rounding down, all of it doubled to stay whole.
    divisor = TENTH * len(sailed)
    return TENTH * ((2 * sum(sailed) + divisor) // (2 * divisor))


def points_kept(points, out):
    """The points in the races that are not left out."""
    return [points[race] for race in range(len(points)) if race not in out]


class Regatta:
    """The boats, the races, and what is told of each boat in each race."""

    def __init__(self):
        self.limits = (0, 0, 0)
        self.ratings = []
        # For each race what is told in it, by boat.
        self.races = []

    def start(self, limits):
        if not limits_are_as_told(limits):
            return NOT_AS_TOLD
        self.limits = limits
        self.ratings = []
        self.races = []
        return 0

    def add_boat(self, rating):
        if not LEAST_RATING <= rating <= MOST_RATING:
            return NOT_AS_TOLD
        if len(self.ratings) == MOST_BOATS:
            return NO_ROOM
        self.ratings.append(rating)
        return len(self.ratings) - 1

    def add_race(self):
        if len(self.races) == MOST_RACES:
            return NO_ROOM
        self.races.append({})
        return len(self.races) - 1

    def finish(self, race, boat, seconds, fined):
        if not self.has(race, boat):
            return NO_SUCH
        if not 1 <= seconds <= MOST_SECONDS or fined > 1:
            return NOT_AS_TOLD
        own_time = seconds * self.ratings[boat]
        self.races[race][boat] = (FINISHED, own_time, fined)
        # A fine weighs on the points, not on the place.
        return self.times_in(race).index(own_time) + 1

    def note(self, race, boat, kind):
        if not self.has(race, boat):
            return NO_SUCH
        if kind == FINISHED or kind > MADE_GOOD:
            return NOT_AS_TOLD
        self.races[race][boat] = (kind, 0, 0)
        return 0

    def points(self, race, boat):
        if not self.has(race, boat):
            return NO_SUCH
        return self.points_of(boat, self.times_of_all())[race]

    def total(self, boat):
        """All numbers that are answered: the total, and the races left out, race k worth 2 to the power k."""
        if not self.has_boat(boat):
            return [NO_SUCH]
        points = self.points_of(boat, self.times_of_all())
        out = self.left_out(boat, points)
        return [sum(points_kept(points, out)), sum([1 << race for race in out])]

    def place(self, boat):
        if not self.has_boat(boat):
            return NO_SUCH
        standings = self.standings()
        return 1 + len([other for other in standings if other < standings[boat]])

    def order(self):
        """All numbers that are answered: how many boats there are, and these by their places."""
        standings = self.standings()
        # Sorting leaves like ones as they stood, that is by their numbers.
        boats = sorted(range(len(standings)), key=lambda boat: standings[boat])
        return [len(boats)] + boats

    def has_boat(self, boat):
        return boat < len(self.ratings)

    def has(self, race, boat):
        return race < len(self.races) and self.has_boat(boat)

    def told_of(self, boat):
        """What is told of a boat, race by race."""
        # One with no entry is one of which nothing was told yet, so a new race or boat needs none.
        return [told.get(boat, NOTHING_TOLD) for told in self.races]

    def times_in(self, race):
        """The times corrected of all that finished a race, the least first."""
        return sorted([told[1] for told in self.races[race].values() if told[0] == FINISHED])

    def times_of_all(self):
        return [self.times_in(race) for race in range(len(self.races))]

    def points_of(self, boat, times):
        """A boat's points, race by race; the times are those of all races."""
        boat_count = len(self.ratings)
        told = self.told_of(boat)
        points = []
        sailed = []
        for race in range(len(told)):
            points.append(points_sailed(told[race], times[race], boat_count))
            if told[race][0] != MADE_GOOD:
                sailed.append(points[race])
        made_good = points_made_good(sailed, boat_count)
        return [made_good if told[race][0] == MADE_GOOD else points[race] for race in range(len(told))]

    def how_many_left_out(self):
        return len([limit for limit in self.limits if 0 < limit <= len(self.races)])

    def left_out(self, boat, points):
        """The races that are left out of a boat's sum, by its points race by race."""
        told = self.told_of(boat)
        free = [race for race in range(len(told)) if told[race][0] != STRUCK_OUT_FOR_GOOD]
        # Sorting leaves like ones as they stood, so of these the first is left out first.
        worst_first = sorted(free, key=lambda race: points[race], reverse=True)
        return worst_first[:self.how_many_left_out()]

    def standing(self, boat, times):
        """A boat is before another one if its standing is less; if they are alike, the boats are level."""
        points = self.points_of(boat, times)
        kept = sorted(points_kept(points, self.left_out(boat, points)))
        # No race has 0 points, so of two lists kept with like sums neither is only the other one's beginning.
        return (sum(kept), kept, list(reversed(points)))

    def standings(self):
        times = self.times_of_all()
        return [self.standing(boat, times) for boat in range(len(self.ratings))]


def answer_call(regatta, call, given):
    """All numbers that one call answers."""
    if call == START:
        return [regatta.start((given[0], given[1], given[2]))]
    if call == BOAT:
        return [regatta.add_boat(given[0])]
    if call == RACE:
        return [regatta.add_race()]
    if call == FINISH:
        return [regatta.finish(given[0], given[1], given[2], given[3])]
    if call == NOTE:
        return [regatta.note(given[0], given[1], given[2])]
    if call == POINTS:
        return [regatta.points(given[0], given[1])]
    if call == TOTAL:
        return regatta.total(given[0])
    if call == PLACE:
        return [regatta.place(given[0])]
    # WIDTHS knows no other call, so what is left is order.
    return regatta.order()


def answers(calls):
    """For each call, in order, how many numbers it answers, then these."""
    regatta = Regatta()
    answered = []
    position = 0
    while position < len(calls):
        call = calls[position]
        behind = position + 1 + WIDTHS[call]
        answer = answer_call(regatta, call, calls[position + 1:behind])
        answered.append(len(answer))
        answered.extend(answer)
        position = behind
    return answered
