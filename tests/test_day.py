"""units, why and without: one day."""

import unittest

from calling import TOP, UNITS, WHY, ask, ask_last, at_one_stop, begins, drop, empty, follow, remove, trip, without

EARLY_AND_LATE = [(0, 10)] * 5 + [(10, 20)] * 5
ONE_BEHIND_ANOTHER = [(10 * k, 10 * k + 10) for k in range(10)]
ROUND = [trip(k, (k + 1) % 10, 10 * k, 10 * k + 4) for k in range(10)]


def units_of(*spans, turn=0):
    return ask_last(*at_one_stop(*spans, turn=turn), UNITS)


def why_of(*spans):
    return ask_last(*at_one_stop(*spans), WHY)


class Units(unittest.TestCase):
    def test_no_trips(self):
        self.assertEqual(ask(UNITS, begins([]), UNITS, begins([1, 2]), empty(0, 1, 1), UNITS),
                         [[0, [1]], 0, [0, [1]], 2, 0, [0, [1]]])

    def test_one_trip(self):
        self.assertEqual(units_of((0, 1)), [1, [1], [0]])
        self.assertEqual(units_of((0, 10000)), [1, [1], [0]])
        self.assertEqual(ask_last(begins([0, 0]), empty(1, 0, 0), trip(0, 1, 5, 6), UNITS), [1, [1], [0]])

    def test_none_may_follow(self):
        self.assertEqual(units_of((0, 10), (5, 15), (9, 20)), [3, [1], [0], [1], [2]])
        self.assertEqual(units_of(*[(3, 4)] * 10), [10, [1]] + [[k] for k in range(10)])

    def test_each_behind_the_one_before(self):
        self.assertEqual(units_of((0, 10), (10, 20), (20, 30)), [1, [1], [0, 1, 2]])

    def test_a_turn_between(self):
        self.assertEqual(units_of((0, 10), (14, 20), turn=4), [1, [1], [0, 1]])
        self.assertEqual(units_of((0, 10), (13, 20), turn=4), [2, [1], [0], [1]])

    def test_another_day_does_not_help(self):
        self.assertEqual(units_of((0, 1440), (100, 200)), [2, [1], [0], [1]])
        self.assertEqual(units_of((0, 1440), (1540, 1600)), [1, [1], [0, 1]])

    def test_an_empty_run_between(self):
        trips = [trip(0, 1, 0, 10), trip(2, 0, 18, 30)]
        self.assertEqual(ask_last(begins([9, 3, 9]), empty(1, 2, 5), *trips, UNITS), [1, [1], [0, 1]])
        self.assertEqual(ask_last(begins([9, 3, 9]), empty(1, 2, 6), *trips, UNITS), [2, [1], [0], [1]])
        self.assertEqual(ask_last(begins([9, 3, 9]), empty(2, 1, 5), *trips, UNITS), [2, [1], [0], [1]])

    def test_how_many_rows(self):
        self.assertEqual(units_of((0, 10), (0, 10), (10, 20), (10, 20)), [2, [2], [0, 2], [1, 3]])
        self.assertEqual(units_of((0, 10), (10, 20), (10, 20)), [2, [2], [0, 1], [2]])
        # of three early ones two have the late ones behind them: three pairs, two ways each
        self.assertEqual(units_of((0, 10), (0, 10), (0, 10), (10, 20), (10, 20)), [3, [6], [0, 3], [1, 4], [2]])

    def test_none_in_one_row_and_a_follower_in_another(self):
        self.assertEqual(units_of((0, 10), (0, 10), (10, 20)), [2, [2], [0, 2], [1]])

    def test_the_lesser_follower_behind_a_later_trip(self):
        self.assertEqual(units_of((100, 110), (0, 10), (20, 30), (20, 30)), [2, [4], [1, 2, 0], [3]])

    def test_the_least_follower_would_need_more(self):
        calls = [begins([0, 0]), empty(0, 1, 5), trip(0, 0, 0, 10), trip(1, 1, 0, 10), trip(1, 1, 20, 30),
                 trip(0, 0, 20, 30)]
        self.assertEqual(ask_last(*calls, UNITS), [2, [1], [0, 3], [1, 2]])

    def test_a_lesser_number_behind_a_greater(self):
        self.assertEqual(units_of((20, 30), (10, 20), (0, 10)), [1, [1], [2, 1, 0]])
        self.assertEqual(units_of((20, 30), (0, 10), (10, 20)), [1, [1], [1, 2, 0]])

    def test_units_by_their_first_trips(self):
        calls = [begins([0, 0]), trip(0, 0, 100, 110), trip(1, 1, 0, 200), trip(0, 0, 0, 10)]
        self.assertEqual(ask_last(*calls, UNITS), [2, [1], [1], [2, 0]])
        calls = [begins([0, 0]), trip(0, 0, 100, 110), trip(1, 1, 50, 60), trip(1, 1, 0, 10), trip(0, 0, 0, 10)]
        self.assertEqual(ask_last(*calls, UNITS), [2, [1], [2, 1], [3, 0]])

    def test_ten_trips(self):
        self.assertEqual(units_of(*ONE_BEHIND_ANOTHER), [1, [1], list(range(10))])
        self.assertEqual(units_of(*reversed(ONE_BEHIND_ANOTHER)), [1, [1], list(range(9, -1, -1))])
        self.assertEqual(units_of(*EARLY_AND_LATE), [5, [120], [0, 5], [1, 6], [2, 7], [3, 8], [4, 9]])
        # two at a time, five times: at each of four changes two ways
        self.assertEqual(units_of(*[(k // 2, k // 2 + 1) for k in range(10)]),
                         [2, [16], [0, 2, 4, 6, 8], [1, 3, 5, 7, 9]])

    def test_ten_trips_over_ten_stops(self):
        self.assertEqual(ask_last(begins([6] * 10), *ROUND, UNITS), [1, [1], list(range(10))])
        self.assertEqual(ask_last(begins([7] * 10), *ROUND, UNITS), [10, [1]] + [[k] for k in range(10)])
        # a run takes the unit from trip 3 on to trip 5, but trip 4 still needs the one that ran trip 3
        self.assertEqual(ask_last(begins([6] * 10), empty(4, 5, 10), *ROUND, UNITS), [1, [1], list(range(10))])
        self.assertEqual(ask_last(begins([6] * 10), empty(4, 5, 10), *ROUND, drop(4), UNITS),
                         [1, [1], list(range(9))])
        self.assertEqual(ask_last(begins([6] * 10), *ROUND, drop(4), UNITS), [2, [1], [0, 1, 2, 3], [4, 5, 6, 7, 8]])


class Why(unittest.TestCase):
    def test_no_trips(self):
        self.assertEqual(ask(WHY, begins([]), WHY, begins([1, 2]), WHY), [[0, [], []], 0, [0, [], []], 2, [0, [], []]])

    def test_none_may_follow(self):
        self.assertEqual(why_of((0, 1)), [0, [], []])
        self.assertEqual(why_of((0, 10), (5, 15), (9, 20)), [0, [], []])

    def test_of_as_few_the_least_number(self):
        self.assertEqual(why_of((0, 10), (10, 20)), [1, [], [1]])
        self.assertEqual(why_of((10, 20), (0, 10)), [1, [], [0]])
        self.assertEqual(why_of((0, 10), (10, 20), (20, 30)), [2, [], [1, 2]])

    def test_the_one_set_is_fewer(self):
        self.assertEqual(why_of((0, 10), (10, 20), (10, 20)), [1, [0], []])
        self.assertEqual(why_of((10, 20), (0, 10), (10, 20)), [1, [1], []])

    def test_the_other_set_is_fewer(self):
        self.assertEqual(why_of((0, 10), (0, 10), (10, 20)), [1, [], [2]])

    def test_both_sets(self):
        # behind trip 0 two may go at stop 0; behind trips 1 and 2 one at stop 1
        calls = [begins([0, 0]), trip(0, 0, 0, 10), trip(1, 1, 0, 10), trip(1, 1, 0, 10), trip(0, 0, 10, 20),
                 trip(0, 0, 10, 20), trip(1, 1, 10, 20)]
        self.assertEqual(ask_last(*calls, WHY), [2, [0], [5]])

    def test_a_trip_in_both(self):
        # the middle one is behind two, and two are behind it
        calls = [begins([0, 0, 0, 0]), trip(1, 0, 0, 10), trip(1, 0, 0, 10), trip(0, 2, 10, 20), trip(2, 3, 20, 30),
                 trip(2, 3, 20, 30)]
        self.assertEqual(ask_last(*calls, WHY), [2, [2], [2]])

    def test_both_rising(self):
        calls = [begins([0, 0]), trip(0, 0, 0, 10), trip(1, 1, 0, 10), trip(1, 1, 20, 30), trip(0, 0, 20, 30)]
        self.assertEqual(ask_last(*calls, WHY), [2, [], [2, 3]])
        calls = [begins([0, 0]), trip(0, 0, 20, 30), trip(1, 1, 20, 30), trip(1, 1, 0, 10), trip(1, 1, 20, 30),
                 trip(0, 0, 20, 30), trip(0, 0, 0, 10)]
        self.assertEqual(ask_last(*calls, WHY), [2, [2, 5], []])

    def test_ten_trips(self):
        self.assertEqual(why_of(*EARLY_AND_LATE), [5, [], [5, 6, 7, 8, 9]])
        self.assertEqual(why_of(*ONE_BEHIND_ANOTHER), [9, [], list(range(1, 10))])
        self.assertEqual(why_of(*[(10, 20)] * 9, (0, 10)), [1, [9], []])
        self.assertEqual(ask_last(begins([6] * 10), *ROUND, WHY), [9, [], list(range(1, 10))])


class Without(unittest.TestCase):
    def test_first_middle_last(self):
        calls = at_one_stop((0, 10), (5, 15), (10, 20))
        self.assertEqual(ask(*calls, without(0), without(1), without(2))[4:], [2, 1, 2])
        calls = [begins([0, 0, 0]), trip(0, 1, 0, 10), trip(1, 2, 20, 30), trip(2, 0, 40, 50)]
        self.assertEqual(ask(*calls, without(0), without(1), without(2))[4:], [1, 2, 1])

    def test_the_last_number_goes_on_counting(self):
        # trip 2 follows trip 1, not trip 0, and is the last by its number
        calls = [begins([0, 0]), trip(0, 0, 0, 10), trip(1, 1, 0, 10), trip(1, 1, 20, 30)]
        self.assertEqual(ask(*calls, without(0), without(1), without(2))[4:], [1, 2, 2])

    def test_the_only_one(self):
        self.assertEqual(ask_last(*at_one_stop((0, 10)), without(0)), 0)

    def test_ten_trips(self):
        self.assertEqual(ask(*at_one_stop(*EARLY_AND_LATE), *[without(k) for k in range(10)])[11:], [5] * 10)
        self.assertEqual(ask(*at_one_stop(*[(3, 4)] * 10), *[without(k) for k in range(10)])[11:], [9] * 10)
        self.assertEqual(ask(begins([6] * 10), *ROUND, *[without(k) for k in range(10)])[11:], [1] + [2] * 8 + [1])

    def test_all_is_afterwards_as_it_was(self):
        calls = [begins([0, 0, 0]), empty(0, 1, 5), trip(0, 1, 0, 10), trip(1, 2, 20, 30), trip(2, 0, 40, 50),
                 trip(1, 1, 60, 70)]
        asked = [UNITS, WHY, follow(0, 1), follow(2, 3), follow(1, 2), UNITS]
        before = ask(*calls, *asked)[6:]
        self.assertEqual(before[0], [1, [1], [0, 1, 2, 3]])
        for k in range(4):
            told = ask(*calls, UNITS, without(k), *asked, without(k))[6:]
            self.assertEqual(told[0], before[0])
            self.assertEqual(told[2:-1], before)
            self.assertEqual(told[1], told[-1])

    def test_no_such_trip(self):
        self.assertEqual(ask(without(0), without(TOP), begins([1]), without(0), without(TOP)), [-2, -2, 1, -2, -2])
        calls = at_one_stop((0, 10), (10, 20))
        self.assertEqual(ask(*calls, without(2), without(3), without(10), without(TOP), UNITS)[3:],
                         [-2, -2, -2, -2, [1, [1], [0, 1]]])


class AsThePlanIsThen(unittest.TestCase):
    def test_runs(self):
        calls = [begins([0, 0]), trip(0, 0, 0, 10), trip(1, 1, 20, 30), trip(1, 1, 20, 30)]
        apart = [[3, [1], [0], [1], [2]], [0, [], []], 2]
        joined = [[2, [2], [0, 1], [2]], [1, [0], []], 2]
        asked = [UNITS, WHY, without(0)]
        self.assertEqual(
            ask(*calls, *asked, empty(0, 1, 10), *asked, empty(0, 1, 11), *asked, empty(0, 1, 9), *asked,
                remove(0, 1), *asked)[4:],
            apart + [0] + joined + [0] + apart + [0] + joined + [0] + apart)

    def test_drop(self):
        calls = at_one_stop((0, 10), (10, 20), (5, 15))
        self.assertEqual(ask(*calls, UNITS, drop(2), UNITS, WHY, without(0), drop(0), UNITS, WHY, without(0))[4:],
                         [[2, [1], [0, 1], [2]], 0, [1, [1], [0, 1]], [1, [], [1]], 1, 0, [1, [1], [0]],
                          [0, [], []], 0])

    def test_begins(self):
        calls = at_one_stop((0, 10), (10, 20), turn=0)
        self.assertEqual(ask(*calls, UNITS, begins([1]), UNITS, WHY, without(0), *calls[1:], UNITS, WHY)[3:],
                         [[1, [1], [0, 1]], 1, [0, [1]], [0, [], []], -2, 0, 1, [2, [1], [0], [1]], [0, [], []]])

    def test_refused_calls_change_nothing(self):
        calls = at_one_stop((0, 10), (10, 20))
        refused = [begins([1441]), trip(0, 1, 20, 30), trip(0, 0, 5, 5), drop(2), follow(2, 0), without(2)]
        self.assertEqual(ask(*calls, *refused, UNITS, WHY)[3:],
                         [-1, -2, -1, -2, -2, -2, [1, [1], [0, 1]], [1, [], [1]]])


if __name__ == "__main__":
    unittest.main()
