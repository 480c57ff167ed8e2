"""All calls held against a plain search through all rows of followers and all sets, for many small plans."""

import itertools
import unittest

from calling import (DAILY, TOP, UNITS, WHY, ask, at_one_stop, begins, drop, empty, flat, follow, remove, trip,
                     without)

class Numbers:
    """Numbers by a fixed rule, the same in each run."""

    def __init__(self, seed):
        self.state = seed

    def below(self, bound):
        self.state = (self.state * 6364136223846793005 + 1442695040888963407) % 2 ** 64
        return (self.state >> 33) % bound

    def one_of(self, row):
        return row[self.below(len(row))]


class PlainPlan:
    """A plan that answers by the words of the document alone, with no care for how long it takes."""

    def __init__(self):
        self.turns, self.runs, self.trips = [], {}, []

    def answer(self, call):
        name = ["begins", "empty", "remove", "trip", "drop", "follow", "units", "why", "daily", "without"][call[0]]
        return getattr(self, name)(*call[1:])

    def begins(self, size, *turns):
        if size > 10 or any(turn > 1440 for turn in turns):
            return -1
        self.turns, self.runs, self.trips = list(turns), {}, []
        return size

    def empty(self, source, target, minutes):
        if max(source, target) >= len(self.turns):
            return -2
        if source == target or minutes > 1440:
            return -1
        self.runs[source, target] = minutes
        return 0

    def remove(self, source, target):
        if max(source, target) >= len(self.turns):
            return -2
        if source == target:
            return -1
        self.runs = {pair: self.runs[pair] for pair in self.runs if pair != (source, target)}
        return 0

    def trip(self, source, target, first, last):
        if max(source, target) >= len(self.turns):
            return -2
        if first >= last or last > 10000:
            return -1
        if len(self.trips) == 10:
            return -5
        self.trips = self.trips + [(source, target, first, last)]
        return len(self.trips) - 1

    def drop(self, k):
        if k >= len(self.trips):
            return -2
        self.trips = [trip for number, trip in enumerate(self.trips) if number != k]
        return 0

    def ready(self, i, j):
        (_, there, _, last), (here, _, _, _) = self.trips[i], self.trips[j]
        if here == there:
            return last + self.turns[there]
        if (there, here) in self.runs:
            return last + self.turns[there] + self.runs[there, here]
        return None

    def days(self, i, j):
        ready = self.ready(i, j)
        if ready is None:
            return None
        return next(days for days in itertools.count() if ready <= self.trips[j][2] + 1440 * days)

    def follow(self, i, j):
        if max(i, j) >= len(self.trips):
            return -2
        return -6 if self.days(i, j) is None else [self.days(i, j), [self.ready(i, j)]]

    def pairs(self):
        every = range(len(self.trips))
        return [(i, j) for i in every for j in every if self.days(i, j) == 0]

    def day_rows(self):
        size = len(self.trips)
        pairs = self.pairs()
        choices = [[j for j in range(size) if (i, j) in pairs] + [size] for i in range(size)]
        for row in itertools.product(*choices):
            given = [j for j in row if j < size]
            if len(given) == len(set(given)):
                yield row

    def fewest_rows(self):
        rows = list(self.day_rows())
        fewest = min(row.count(len(row)) for row in rows)
        return fewest, [row for row in rows if row.count(len(row)) == fewest]

    def units(self):
        fewest, rows = self.fewest_rows()
        first = min(rows)
        size = len(first)
        lists = []
        for trip in range(size):
            if trip not in first:
                lists.append([])
                while trip != size:
                    lists[-1].append(trip)
                    trip = first[trip]
        return [fewest, [len(rows)]] + lists

    def why(self):
        size = len(self.trips)
        pairs = self.pairs()
        sets = [[trip for trip in range(size) if number >> trip & 1] for number in range(2 ** size)]
        best = None
        for one in sets:
            for other in sets:
                if best is None or len(one) + len(other) < best[0]:
                    if all(i in one or j in other for i, j in pairs):
                        best = [len(one) + len(other), one, other]
        return best

    def daily(self):
        size = len(self.trips)
        days = {(i, j): self.days(i, j) for i in range(size) for j in range(size)}
        needed = {}
        for row in itertools.permutations(range(size)):
            each = [days[i, j] for i, j in enumerate(row)]
            if None not in each:
                needed.setdefault(sum(each), []).append(row)
        if not needed:
            return -6
        fewest = min(needed)
        return [fewest, [len(needed[fewest])]] + rings(min(needed[fewest]))

    def without(self, k):
        if k >= len(self.trips):
            return -2
        other = PlainPlan()
        other.turns, other.runs, other.trips = self.turns, self.runs, self.trips
        other.drop(k)
        return other.fewest_rows()[0]


def rings(row):
    lists = []
    for trip in range(len(row)):
        if not any(trip in ring for ring in lists):
            ring = [trip]
            while row[ring[-1]] != trip:
                ring.append(row[ring[-1]])
            lists.append(ring)
    return lists


def made_plan(numbers, size):
    """The calls for a plan of so many trips; some plans are crowded, some are over several days."""
    stops = 1 + numbers.below(3)
    grid = numbers.one_of([1, 5, 10, 480])
    longer = numbers.one_of([[0], [0], [0, 0, 1439, 1440]])
    span = numbers.one_of([4, 8, 12])
    calls = [begins([numbers.below(3) * grid // 2 for _ in range(stops)])]
    for source, target in itertools.permutations(range(stops), 2):
        if numbers.below(3) > 0:
            calls.append(empty(source, target, numbers.below(4) * grid // 2))
    for _ in range(size):
        first = numbers.below(span) * grid
        last = first + (1 + numbers.below(3)) * grid + numbers.one_of(longer)
        calls.append(trip(numbers.below(stops), numbers.below(stops), first, last))
    return calls


def plain(calls):
    plan = PlainPlan()
    return [plan.answer(call) for call in calls]


def made_number(numbers, usual):
    return numbers.one_of([TOP, 10, usual]) if numbers.below(12) == 0 else numbers.below(usual)


def made_call(numbers):
    kind = numbers.below(14)
    if kind == 0 and numbers.below(3) == 0:
        return begins([numbers.below(4) for _ in range(2 + numbers.below(2))])
    if kind <= 1:
        return empty(made_number(numbers, 3), made_number(numbers, 3), made_number(numbers, 1442))
    if kind == 2:
        return remove(made_number(numbers, 3), made_number(numbers, 3))
    if kind <= 5:
        first = made_number(numbers, 40)
        return trip(made_number(numbers, 3), made_number(numbers, 3), first, first + numbers.below(20))
    if kind <= 7:
        return drop(made_number(numbers, 4))
    if kind == 8:
        return follow(made_number(numbers, 4), made_number(numbers, 4))
    return [UNITS, WHY, DAILY, without(made_number(numbers, 4)), DAILY][kind - 9]


class Search(unittest.TestCase):
    def check(self, calls):
        self.assertEqual(ask(*calls), plain(calls), flat(calls))

    def check_plan(self, seed, size):
        calls = made_plan(Numbers(seed), size)
        asked = [UNITS, WHY, DAILY] + [without(k) for k in range(size + 1)] + [UNITS]
        self.check(calls + asked)

    def test_small_plans(self):
        for size in range(5):
            for seed in range(300):
                self.check_plan(1000 * size + seed, size)

    def test_five_and_six_trips(self):
        for size, plans in ((5, 150), (6, 30)):
            for seed in range(plans):
                self.check_plan(1000 * size + seed, size)

    def test_follow(self):
        for seed in range(120):
            numbers = Numbers(7000 + seed)
            size = 1 + numbers.below(4)
            every = range(size + 1)
            self.check(made_plan(numbers, size) + [follow(i, j) for i in every for j in every])

    def test_calls_mixed(self):
        for seed in range(300):
            numbers = Numbers(8000 + seed)
            calls = made_plan(numbers, 2 + numbers.below(2))
            while len(calls) < 40:
                call = made_call(numbers)
                # the plain search takes long for many trips
                if call[0] != 3 or plain(calls + [drop(5)])[-1] == -2:
                    calls.append(call)
                else:
                    calls.append(drop(0))
            self.check(calls)

    def test_made_plans_are_of_many_kinds(self):
        told = [plain(made_plan(Numbers(4000 + seed), 4) + [UNITS, WHY, DAILY])[-3:] for seed in range(300)]
        self.assertEqual({units[0] for units, _, _ in told}, {1, 2, 3, 4})
        self.assertGreater(len({units[1][0] for units, _, _ in told}), 3)
        self.assertTrue(any(why[1] for _, why, _ in told) and any(why[2] for _, why, _ in told))
        self.assertTrue(any(why[1] and why[2] for _, why, _ in told))
        self.assertTrue(any(daily == -6 for _, _, daily in told))
        self.assertGreater(len({len(daily) for _, _, daily in told if daily != -6}), 3)


class TenTrips(unittest.TestCase):
    """Ten trips are too many for the plain search through all sets, but not for what is asked here."""

    def test_units_and_why_are_as_many_as_trips(self):
        for size in range(1, 11):
            for seed in range(12):
                calls = made_plan(Numbers(9000 + 100 * size + seed), size)
                units, why = ask(*calls, UNITS, WHY)[-2:]
                self.assertEqual(units[0] + why[0], size)
                self.assertEqual(len(units) - 2, units[0])
                self.assertEqual(sorted(flat(units[2:])), list(range(size)))

    def test_rows_of_ten_trips(self):
        # three at once, four at once, three at once: few enough rows for the search through rows
        spans = [(0, 10)] * 3 + [(10, 20)] * 4 + [(20, 30)] * 3
        calls = at_one_stop(*spans) + [UNITS]
        plan = PlainPlan()
        for call in calls[:-1]:
            plan.answer(call)
        self.assertEqual(ask(*calls)[-1], plan.units())


if __name__ == "__main__":
    unittest.main()
