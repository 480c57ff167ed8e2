"""The desk: goes through the calls on one new plan and gives back their answers."""

from tripunits.followers import cheapest, daily_choices, day_choices, days_later, may_follow, ring_lists, unit_lists
from tripunits.plan import NEVER, NO_SUCH, Plan
from tripunits.reason import fewest_sets, size_of

BEGINS = 0
EMPTY = 1
REMOVE = 2
TRIP = 3
DROP = 4
FOLLOW = 5
UNITS = 6
WHY = 7
DAILY = 8

# By a call's number, how many whole numbers stand behind it. begins is not in here:
# it has a row instead, which tells its own length.
WHOLE_NUMBERS = {1: 3, 2: 2, 3: 4, 4: 1, 5: 2, 6: 0, 7: 0, 8: 0, 9: 1}


def answers(calls):
    plan = Plan()
    told = []
    at = 0
    while at < len(calls):
        end = end_of_call(calls, at)
        answer = answer_of(plan, calls[at], calls[at + 1:end])
        told.append(len(answer))
        told.extend(answer)
        at = end
    return told


def end_of_call(calls, at):
    if calls[at] == BEGINS:
        return at + 2 + calls[at + 1]
    return at + 1 + WHOLE_NUMBERS[calls[at]]


def answer_of(plan, call, numbers):
    if call <= DROP:
        return [change(plan, call, numbers)]
    if call == FOLLOW:
        return follow(plan, numbers[0], numbers[1])
    if call == UNITS:
        return units(plan)
    if call == WHY:
        return why(plan)
    if call == DAILY:
        return daily(plan)
    # end_of_call lets no other call through, so without is what is left
    return [without(plan, numbers[0])]


def change(plan, call, numbers):
    if call == BEGINS:
        return plan.begin(numbers[1:])
    if call == EMPTY:
        return plan.set_run(numbers[0], numbers[1], numbers[2])
    if call == REMOVE:
        return plan.remove_run(numbers[0], numbers[1])
    if call == TRIP:
        return plan.add_trip(numbers[0], numbers[1], numbers[2], numbers[3])
    return plan.drop_trip(numbers[0])


def follow(plan, i, j):
    if not plan.has_trip(i) or not plan.has_trip(j):
        return [NO_SUCH]
    ready = plan.ready(plan.trips[i], plan.trips[j])
    if ready is None:
        return [NEVER]
    return with_lists(days_later(ready, plan.trips[j]), [[ready]])


def units(plan):
    best = cheapest(day_choices(plan, plan.trips))
    return with_lists(best[0], [[best[1]]] + unit_lists(best[2]))


def why(plan):
    sets = fewest_sets(may_follow(plan, plan.trips))
    return with_lists(size_of(sets), sets)


def daily(plan):
    best = cheapest(daily_choices(plan, plan.trips))
    if best is None:
        return [NEVER]
    return with_lists(best[0], [[best[1]]] + ring_lists(best[2]))


def without(plan, k):
    if not plan.has_trip(k):
        return NO_SUCH
    # the rest are put together anew: the plan keeps trip k
    rest = plan.trips[:k] + plan.trips[k + 1:]
    return cheapest(day_choices(plan, rest))[0]


def with_lists(number, lists):
    told = [number]
    for members in lists:
        told.append(len(members))
        told.extend(members)
    return told
