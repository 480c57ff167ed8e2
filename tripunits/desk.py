"""The desk: goes through the calls on one new plan and gives back their answers."""

from tripunits.plan import Plan

BEGINS = 0
EMPTY = 1
REMOVE = 2
TRIP = 3

# By a call's number, how many whole numbers stand behind it. begins is not in here:
# it has a row instead, which tells its own length.
WHOLE_NUMBERS = {1: 3, 2: 2, 3: 4, 4: 1}


def answers(calls):
    plan = Plan()
    told = []
    at = 0
    while at < len(calls):
        end = end_of_call(calls, at)
        answer = answer_of(plan, calls[at], calls[at + 1:end])
        told.append(len(answer))
        told.extend(answer)
        at = end
    return told


def end_of_call(calls, at):
    if calls[at] == BEGINS:
        return at + 2 + calls[at + 1]
    return at + 1 + WHOLE_NUMBERS[calls[at]]


def answer_of(plan, call, numbers):
    if call == BEGINS:
        return [plan.begin(numbers[1:])]
    if call == EMPTY:
        return [plan.set_run(numbers[0], numbers[1], numbers[2])]
    if call == REMOVE:
        return [plan.remove_run(numbers[0], numbers[1])]
    if call == TRIP:
        return [plan.add_trip(numbers[0], numbers[1], numbers[2], numbers[3])]
    # end_of_call lets no call through that is not written yet, so drop is what is left
    return [plan.drop_trip(numbers[0])]
