"""Rows of followers: which there may be, the cheapest of them, and what each unit runs by one."""

DAY = 1440


# On one day a trip without a follower costs a unit; none is counted as the number of trips.
def day_choices(plan, trips):
    choices = []
    for followers in may_follow(plan, trips):
        choices.append([(j, 0) for j in followers] + [(len(trips), 1)])
    return choices


# A trip ends behind its beginning, so this finds none that may follow itself.
def may_follow(plan, trips):
    found = []
    for pairs in daily_choices(plan, trips):
        found.append([pair[0] for pair in pairs if pair[1] == 0])
    return found


# Every day each trip has a follower, and costs as many units as that one is days later.
def daily_choices(plan, trips):
    return [choices_behind(plan, trips, one) for one in trips]


def choices_behind(plan, trips, one):
    pairs = []
    for j, other in enumerate(trips):
        ready = plan.ready(one, other)
        if ready is not None:
            pairs.append((j, days_later(ready, other)))
    return pairs


def days_later(ready, trip):
    late = max(0, ready - trip[2])
    # a day that has begun is a whole one
    return (late + DAY - 1) // DAY


# choices has of each trip its (follower, cost) pairs. Gives back the least cost, how many rows have
# it and the first of these, or None where there is no row. Beginnings of rows that took the same
# followers go on in the same ways, so of these only the least cost, how many have it and the first
# are kept: there may be millions of rows, but of ten trips there are only 1024 sets.
def cheapest(choices):
    none = len(choices)
    bests = {0: (0, 1, ())}
    for pairs in choices:
        longer = {}
        for taken, best in bests.items():
            for follower, cost in pairs:
                bit = 1 << follower if follower < none else 0
                if taken & bit == 0:
                    grown = (best[0] + cost, best[1], best[2] + (follower,))
                    longer[taken | bit] = merged(longer.get(taken | bit), grown)
        bests = longer
    found = None
    for best in bests.values():
        found = merged(found, best)
    return found


def merged(one, other):
    if one is None or other[0] < one[0]:
        return other
    if one[0] < other[0]:
        return one
    return (one[0], one[1] + other[1], min(one[2], other[2]))


def unit_lists(row):
    return [run_from(row, trip) for trip in range(len(row)) if trip not in row]


def ring_lists(row):
    rings = []
    seen = {}
    for trip in range(len(row)):
        if trip not in seen:
            ring = run_from(row, trip)
            rings.append(ring)
            for member in ring:
                seen[member] = True
    return rings


def run_from(row, first):
    run = [first]
    after = row[first]
    while after < len(row) and after != first:
        run.append(after)
        after = row[after]
    return run
