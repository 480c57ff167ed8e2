"""A plan: its stops, its empty runs and its trips, each kept within its bounds."""

MOST_STOPS = 10
MOST_TRIPS = 10
LONGEST = 1440
LAST_MINUTE = 10000

OUT_OF_BOUNDS = -1
NO_SUCH = -2
FULL = -5
NEVER = -6


# What a method refuses it refuses ahead of any change, so that a refused call leaves all as it was;
# it asks in the order in which the refusals are told.
class Plan:
    def __init__(self):
        self.turns = []
        # (source, target) -> minutes; a pair that is not in it has no empty run
        self.runs = {}
        # (source, target, first minute, last minute), by the trips' numbers
        self.trips = []

    def begin(self, turns):
        if len(turns) > MOST_STOPS or max(turns, default=0) > LONGEST:
            return OUT_OF_BOUNDS
        self.turns = list(turns)
        self.runs = {}
        self.trips = []
        return len(self.turns)

    def set_run(self, source, target, minutes):
        refusal = self.run_refusal(source, target)
        if refusal < 0:
            return refusal
        if minutes > LONGEST:
            return OUT_OF_BOUNDS
        self.runs[(source, target)] = minutes
        return 0

    def remove_run(self, source, target):
        refusal = self.run_refusal(source, target)
        if refusal < 0:
            return refusal
        if (source, target) in self.runs:
            self.runs.pop((source, target))
        return 0

    def add_trip(self, source, target, first, last):
        if not self.has_stops(source, target):
            return NO_SUCH
        if last <= first or last > LAST_MINUTE:
            return OUT_OF_BOUNDS
        if len(self.trips) >= MOST_TRIPS:
            return FULL
        self.trips.append((source, target, first, last))
        return len(self.trips) - 1

    def drop_trip(self, k):
        if not self.has_trip(k):
            return NO_SUCH
        self.trips.pop(k)
        return 0

    def run_refusal(self, source, target):
        if not self.has_stops(source, target):
            return NO_SUCH
        if source == target:
            return OUT_OF_BOUNDS
        return 0

    def has_stops(self, source, target):
        return source < len(self.turns) and target < len(self.turns)

    def has_trip(self, k):
        return k < len(self.trips)

    # one and other are trips themselves, not their numbers, so that it can be asked of trips
    # that stand otherwise than in this plan
    def ready(self, one, other):
        stop = one[1]
        turned = one[3] + self.turns[stop]
        if other[0] == stop:
            return turned
        if (stop, other[0]) in self.runs:
            return turned + self.runs[(stop, other[0])]
        return None
