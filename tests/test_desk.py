"""The calls and their answers, as tripunits.desk.answers takes and gives them."""

import time
import unittest

from calling import DAILY, TOP, UNITS, WHY, ask, begins, drop, empty, flat, follow, remove, trip, without
from tripunits.desk import answer_of, answers
from tripunits.plan import Plan

TEN_TRIPS = [trip(0, 1, k, k + 1) for k in range(10)]


class Begins(unittest.TestCase):
    def test_how_many_stops(self):
        for size in range(11):
            self.assertEqual(ask(begins([5] * size)), [size])

    def test_too_many_stops(self):
        self.assertEqual(ask(begins([5] * 11)), [-1])
        self.assertEqual(ask(begins([5] * 20)), [-1])

    def test_turns(self):
        self.assertEqual(ask(begins([0])), [1])
        self.assertEqual(ask(begins([1440])), [1])
        self.assertEqual(ask(begins([1441])), [-1])
        self.assertEqual(ask(begins([TOP])), [-1])

    def test_a_turn_anywhere_is_too_long(self):
        for k in range(10):
            turns = [1440] * 10
            turns[k] = 1441
            self.assertEqual(ask(begins(turns)), [-1])

    def test_both_too_many_and_too_long(self):
        self.assertEqual(ask(begins([TOP] * 20)), [-1])

    def test_once_more_there_are_no_trips(self):
        self.assertEqual(
            ask(begins([1, 2]), trip(0, 1, 0, 5), trip(0, 1, 0, 5), begins([1, 2]), drop(0), trip(0, 1, 0, 5)),
            [2, 0, 1, 2, -2, 0])

    def test_once_more_the_stops_are_the_new_ones(self):
        self.assertEqual(ask(begins([1, 2, 3]), begins([1]), trip(0, 2, 0, 5), trip(0, 1, 0, 5), trip(0, 0, 0, 5)),
                         [3, 1, -2, -2, 0])
        self.assertEqual(ask(begins([1]), begins([1, 2, 3]), trip(0, 2, 0, 5)), [1, 3, 0])
        self.assertEqual(ask(begins([1]), begins([]), trip(0, 0, 0, 5)), [1, 0, -2])

    def test_refused_all_is_as_it_was(self):
        for refused in ([1] * 11, [1] * 20, [1441], [TOP, 0, 0]):
            self.assertEqual(
                ask(begins([1, 2]), trip(0, 1, 0, 5), begins(refused), trip(1, 0, 0, 5), trip(0, 2, 0, 5), drop(1)),
                [2, 0, -1, 1, -2, 0])

    def test_refused_at_first_there_are_no_stops(self):
        self.assertEqual(ask(begins([1441]), trip(0, 0, 0, 5)), [-1, -2])


class Empty(unittest.TestCase):
    def test_set_and_set_anew(self):
        self.assertEqual(ask(begins([1, 2]), empty(0, 1, 7), empty(0, 1, 9), empty(1, 0, 9)), [2, 0, 0, 0])

    def test_minutes(self):
        for minutes, told in ((0, 0), (1440, 0), (1441, -1), (TOP, -1)):
            self.assertEqual(ask(begins([1, 2]), empty(0, 1, minutes)), [2, told])

    def test_from_is_to(self):
        self.assertEqual(ask(begins([1, 2]), empty(0, 0, 7), empty(1, 1, 7), empty(1, 1, TOP)), [2, -1, -1, -1])

    def test_no_such_stop(self):
        for far in (2, 3, TOP):
            self.assertEqual(ask(begins([1, 2]), empty(far, 1, 7), empty(1, far, 7), empty(far, far, 7)),
                             [2, -2, -2, -2])
        self.assertEqual(ask(begins([1] * 10), empty(9, 8, 7), empty(8, 9, 7), empty(9, 10, 7), empty(10, 9, 7)),
                         [10, 0, 0, -2, -2])

    def test_no_such_stop_is_told_first(self):
        self.assertEqual(ask(begins([1, 2]), empty(0, 2, 1441), empty(2, 0, 1441), empty(2, 2, 1441)),
                         [2, -2, -2, -2])

    def test_no_stops_at_all(self):
        self.assertEqual(ask(empty(0, 1, 7), empty(0, 0, 7), begins([]), empty(0, 1, 7)), [-2, -2, 0, -2])


class Remove(unittest.TestCase):
    def test_removed(self):
        self.assertEqual(ask(begins([1, 2]), empty(0, 1, 7), remove(0, 1), remove(0, 1)), [2, 0, 0, 0])

    def test_where_there_is_none(self):
        self.assertEqual(ask(begins([1, 2]), remove(0, 1), empty(0, 1, 7), remove(1, 0)), [2, 0, 0, 0])

    def test_from_is_to(self):
        self.assertEqual(ask(begins([1, 2]), remove(0, 0), remove(1, 1)), [2, -1, -1])

    def test_no_such_stop(self):
        for far in (2, 3, TOP):
            self.assertEqual(ask(begins([1, 2]), remove(far, 1), remove(1, far), remove(far, far)), [2, -2, -2, -2])

    def test_no_stops_at_all(self):
        self.assertEqual(ask(remove(0, 1), remove(0, 0), begins([]), remove(0, 1)), [-2, -2, 0, -2])


class Trip(unittest.TestCase):
    def test_its_number(self):
        self.assertEqual(ask(begins([1, 2]), *TEN_TRIPS), [2] + list(range(10)))

    def test_the_same_stop(self):
        self.assertEqual(ask(begins([1, 2]), trip(1, 1, 3, 4), trip(0, 0, 3, 4)), [2, 0, 1])

    def test_the_same_trip_twice(self):
        self.assertEqual(ask(begins([1, 2]), trip(0, 1, 3, 4), trip(0, 1, 3, 4)), [2, 0, 1])

    def test_minutes(self):
        for first, last, told in ((0, 1, 0), (0, 10000, 0), (9999, 10000, 0), (0, 10001, -1), (10000, 10001, -1),
                                  (0, TOP, -1), (TOP - 1, TOP, -1)):
            self.assertEqual(ask(begins([1, 2]), trip(0, 1, first, last)), [2, told])

    def test_it_ends_behind_its_beginning(self):
        for first, last in ((0, 0), (5, 5), (5, 4), (1, 0), (10000, 10000), (10001, 10000), (TOP, 0), (TOP, TOP)):
            self.assertEqual(ask(begins([1, 2]), trip(0, 1, first, last)), [2, -1])

    def test_no_such_stop(self):
        for far in (2, 3, TOP):
            self.assertEqual(ask(begins([1, 2]), trip(far, 1, 3, 4), trip(1, far, 3, 4), trip(far, far, 3, 4)),
                             [2, -2, -2, -2])
        self.assertEqual(ask(trip(0, 0, 3, 4), begins([]), trip(0, 0, 3, 4)), [-2, 0, -2])

    def test_the_eleventh(self):
        self.assertEqual(ask(begins([1, 2]), *TEN_TRIPS, trip(0, 1, 3, 4), trip(1, 0, 3, 4))[-3:], [9, -5, -5])

    def test_which_refusal_is_told_first(self):
        self.assertEqual(ask(begins([1, 2]), trip(0, 2, 4, 4), trip(2, 0, 0, 10001)), [2, -2, -2])
        self.assertEqual(
            ask(begins([1, 2]), *TEN_TRIPS, trip(0, 2, 4, 4), trip(2, 0, 3, 4), trip(0, 1, 4, 4),
                trip(0, 1, 4, 10001), trip(0, 1, 3, 4))[-5:],
            [-2, -2, -1, -1, -5])

    def test_a_refused_one_is_not_there(self):
        self.assertEqual(ask(begins([1, 2]), trip(0, 2, 3, 4), trip(0, 1, 4, 4), drop(0), trip(0, 1, 3, 4)),
                         [2, -2, -1, -2, 0])

    def test_room_after_a_drop(self):
        for k in (0, 4, 9):
            self.assertEqual(ask(begins([1, 2]), *TEN_TRIPS, drop(k), trip(0, 1, 3, 4), trip(0, 1, 3, 4))[-3:],
                             [0, 9, -5])
        self.assertEqual(ask(begins([1, 2]), *TEN_TRIPS[:3], drop(0), drop(0), trip(0, 1, 3, 4))[-1], 1)


class Drop(unittest.TestCase):
    def test_first_middle_last(self):
        for k in (0, 1, 2):
            self.assertEqual(ask(begins([1, 2]), *TEN_TRIPS[:3], drop(k), drop(2), drop(1), drop(0), drop(0))[4:],
                             [0, -2, 0, 0, -2])

    def test_no_such_trip(self):
        self.assertEqual(ask(drop(0), begins([1, 2]), drop(0), drop(TOP)), [-2, 2, -2, -2])
        self.assertEqual(ask(begins([1, 2]), *TEN_TRIPS[:2], drop(2), drop(3), drop(TOP), trip(0, 1, 3, 4))[3:],
                         [-2, -2, -2, 2])


class NumbersOfACall(unittest.TestCase):
    """Which number of a call is which, seen in the plan itself."""

    def test_each_in_its_place(self):
        plan = Plan()
        self.assertEqual(answer_of(plan, 0, [3, 7, 8, 9]), [3])
        self.assertEqual(plan.turns, [7, 8, 9])
        self.assertEqual(answer_of(plan, 1, [0, 2, 30]), [0])
        self.assertEqual(answer_of(plan, 1, [2, 0, 40]), [0])
        self.assertEqual(plan.runs, {(0, 2): 30, (2, 0): 40})
        self.assertEqual(answer_of(plan, 2, [2, 0]), [0])
        self.assertEqual(plan.runs, {(0, 2): 30})
        self.assertEqual(answer_of(plan, 3, [1, 2, 50, 60]), [0])
        self.assertEqual(answer_of(plan, 3, [2, 0, 70, 80]), [1])
        self.assertEqual(plan.trips, [(1, 2, 50, 60), (2, 0, 70, 80)])
        self.assertEqual(answer_of(plan, 4, [0]), [0])
        self.assertEqual(plan.trips, [(2, 0, 70, 80)])


# All ten calls, 40 in one list, each with what is answered to it.
MIXED = [
    (UNITS, [0, 1, 1]), (WHY, [0, 0, 0]), (DAILY, [0, 1, 1]), (without(0), [-2]), (follow(0, 0), [-2]), (drop(0), [-2]),
    (begins([5, 7]), [2]), (empty(0, 1, 30), [0]), (trip(0, 1, 100, 200), [0]), (trip(1, 0, 207, 300), [1]),
    (follow(0, 1), [0, 1, 207]), (follow(1, 0), [1, 1, 305]), (follow(0, 0), [-6]), (follow(0, 2), [-2]),
    (UNITS, [1, 1, 1, 2, 0, 1]), (WHY, [1, 0, 1, 1]), (DAILY, [1, 1, 1, 2, 0, 1]), (without(0), [1]),
    (trip(0, 0, 10, 95), [2]), (UNITS, [1, 1, 1, 3, 2, 0, 1]), (WHY, [2, 0, 2, 0, 1]), (DAILY, [1, 1, 1, 3, 0, 1, 2]),
    (trip(1, 1, 10, 95), [3]), (UNITS, [2, 1, 2, 3, 2, 0, 1, 1, 3]), (WHY, [2, 0, 2, 0, 1]),
    (DAILY, [2, 1, 2, 3, 0, 1, 2, 1, 3]), (without(2), [2]), (without(3), [1]), (without(4), [-2]),
    (remove(0, 1), [0]), (remove(0, 2), [-2]), (drop(1), [0]), (DAILY, [-6]), (trip(1, 1, 5, 5), [-1]),
    (UNITS, [2, 1, 1, 2, 1, 0, 1, 2]), (WHY, [1, 0, 1, 0]), (begins([1441]), [-1]), (without(0), [2]),
    (begins([]), [0]), (UNITS, [0, 1, 1]),
]


class Form(unittest.TestCase):
    calls = flat(call for call, _ in MIXED)

    def test_each_answer_behind_its_length(self):
        calls = (begins([1, 2]) + empty(0, 1, 7) + trip(0, 1, 3, 4) + trip(0, 3, 3, 4) + remove(0, 1) + trip(1, 1, 3, 4)
                 + drop(1) + begins([]) + drop(0))
        self.assertEqual(answers(calls), [1, 2, 1, 0, 1, 0, 1, -2, 1, 0, 1, 1, 1, 0, 1, 0, 1, -2])

    def test_each_list_behind_its_length(self):
        calls = [0, 1, 5] + [3, 0, 0, 10, 20] + [3, 0, 0, 25, 30]
        told = [1, 1] + [1, 0] + [1, 1]
        self.assertEqual(answers(calls + [5, 0, 1]), told + [3, 0, 1, 25])
        self.assertEqual(answers(calls + [6]), told + [6, 1, 1, 1, 2, 0, 1])
        self.assertEqual(answers(calls + [7]), told + [4, 1, 0, 1, 1])
        self.assertEqual(answers(calls + [8]), told + [6, 1, 1, 1, 2, 0, 1])
        self.assertEqual(answers(calls + [9, 0]), told + [1, 1])
        self.assertEqual(answers([6, 7, 8]), [3, 0, 1, 1, 3, 0, 0, 0, 3, 0, 1, 1])
        self.assertEqual(answers([5, 0, 0, 9, 0, 6]), [1, -2, 1, -2, 3, 0, 1, 1])

    def test_all_ten_calls_mixed(self):
        self.assertEqual(len(MIXED), 40)
        self.assertEqual({call[0] for call, _ in MIXED}, set(range(10)))
        self.assertEqual(answers(self.calls), flat([len(told)] + told for _, told in MIXED))

    def test_ten_trips_many_times(self):
        crowds = ([(k // 5, k // 5 + 1) for k in range(10)], [(k, k + 1) for k in range(10)], [(0, 1)] * 10,
                  [(7 * k % 10, 7 * k % 10 + 3) for k in range(10)])
        for crowd in crowds:
            calls = [0, 1, 0] + flat(trip(0, 0, first, last) for first, last in crowd)
            once = answers(calls + [6, 7, 8])[22:]
            before = time.monotonic()
            # 30 calls on ten trips are one more than a line has: what fits in one is answered sooner
            self.assertEqual(answers(calls + [6, 7, 8] * 10)[22:], once * 10)
            self.assertLess(time.monotonic() - before, 10)

    def test_one_call(self):
        self.assertEqual(answers([0, 0]), [1, 0])
        self.assertEqual(answers([4, 0]), [1, -2])

    def test_numbers_of_begins_are_not_taken_for_calls(self):
        self.assertEqual(answers([0, 5, 0, 1, 2, 3, 4] + [4, 0]), [1, 5, 1, -2])
        self.assertEqual(answers([0, 11] + [0] * 11 + [4, 0]), [1, -1, 1, -2])

    def test_forty_calls(self):
        calls = begins([1, 2])
        told = [1, 2]
        for _ in range(19):
            calls = calls + trip(0, 1, 3, 4) + drop(0)
            told = told + [1, 0, 1, 0]
        calls = calls + drop(0)
        self.assertEqual(answers(calls), told + [1, -2])

    def test_what_is_handed_in_is_not_changed(self):
        class Kept(list):
            """A list that allows no change, so that none is made for a while either."""

            def refuse(self, *args, **kwargs):
                raise AssertionError("what was handed in is changed")

            append = extend = insert = pop = remove = clear = sort = reverse = refuse
            __setitem__ = __delitem__ = __iadd__ = __imul__ = refuse

        kept = Kept(self.calls)
        self.assertEqual(answers(kept), answers(list(self.calls)))
        self.assertEqual(list(kept), self.calls)

    def test_asked_twice(self):
        calls = list(self.calls)
        told = answers(calls)
        before = list(told)
        self.assertEqual(answers(calls), before)
        told.append(7)
        self.assertEqual(answers(calls), before)
        self.assertEqual(answers([3, 0, 0, 3, 4]), [1, -2])

    def test_kinds(self):
        told = answers(list(self.calls))
        self.assertIs(type(told), list)
        self.assertTrue(all(type(number) is int for number in told))


if __name__ == "__main__":
    unittest.main()
