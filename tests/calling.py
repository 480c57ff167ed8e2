"""How the tests write calls and read answers."""

from tripunits.desk import answers

TOP = 4294967295


def begins(turns):
    return [0, len(turns)] + list(turns)


def empty(source, target, minutes):
    return [1, source, target, minutes]


def remove(source, target):
    return [2, source, target]


def trip(source, target, first, last):
    return [3, source, target, first, last]


def drop(k):
    return [4, k]


def follow(i, j):
    return [5, i, j]


UNITS = [6]
WHY = [7]
DAILY = [8]


def without(k):
    return [9, k]


def at_one_stop(*spans, turn=0):
    """The calls for one stop with such a turn and for trips from it to itself, at such minutes."""
    return [begins([turn])] + [trip(0, 0, first, last) for first, last in spans]


def flat(calls):
    return [number for call in calls for number in call]


def ask(*calls):
    """Each call's answer: a number, or a list of the number and the lists behind it."""
    told = answers(flat(calls))
    assert all(type(number) is int for number in told), told
    found = []
    at = 0
    while at < len(told):
        end = at + 1 + told[at]
        assert at + 1 < end <= len(told), told
        found.append(read(told[at + 1:end]))
        at = end
    assert len(found) == len(calls), told
    return found


def ask_last(*calls):
    return ask(*calls)[-1]


def read(answer):
    found = [answer[0]]
    at = 1
    while at < len(answer):
        end = at + 1 + answer[at]
        assert at < end <= len(answer), answer
        found.append(answer[at + 1:end])
        at = end
    return found if len(found) > 1 else found[0]
