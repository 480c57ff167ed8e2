"""daily: every day the same."""

import unittest

from calling import DAILY, UNITS, ask, ask_last, at_one_stop, begins, drop, empty, remove, trip


def daily_of(*spans, turn=0):
    return ask_last(*at_one_stop(*spans, turn=turn), DAILY)


class Daily(unittest.TestCase):
    def test_no_trips(self):
        self.assertEqual(ask(DAILY, begins([]), DAILY, begins([1, 2]), DAILY), [[0, [1]], 0, [0, [1]], 2, [0, [1]]])

    def test_one_trip_behind_itself(self):
        for last, days in ((1, 1), (1440, 1), (1441, 2), (2880, 2), (2881, 3), (10000, 7)):
            self.assertEqual(daily_of((0, last)), [days, [1], [0]])
        self.assertEqual(daily_of((0, 1440), turn=1), [2, [1], [0]])
        self.assertEqual(daily_of((9999, 10000)), [1, [1], [0]])
        self.assertEqual(ask_last(begins([0, 0]), empty(1, 0, 1440), trip(0, 1, 0, 1), DAILY), [2, [1], [0]])

    def test_it_cannot_follow_any(self):
        self.assertEqual(ask_last(begins([0, 0]), trip(0, 1, 0, 10), DAILY), -6)
        self.assertEqual(ask_last(begins([0, 0]), empty(0, 1, 5), trip(0, 1, 0, 10), DAILY), -6)
        self.assertEqual(ask_last(begins([0, 0, 0]), trip(0, 0, 0, 10), trip(0, 0, 0, 10), trip(2, 0, 20, 30), DAILY),
                         -6)

    def test_none_follows_it(self):
        self.assertEqual(ask_last(begins([0, 0, 0]), trip(0, 0, 0, 10), trip(0, 2, 0, 10), trip(0, 0, 20, 30), DAILY),
                         -6)

    def test_each_has_some_but_two_have_the_same(self):
        calls = [begins([0, 0]), trip(0, 1, 0, 10), trip(0, 1, 5, 15), trip(1, 0, 20, 30)]
        self.assertEqual(ask(*calls, DAILY, trip(1, 0, 40, 50), DAILY, UNITS)[4:],
                         [-6, 3, [2, [4], [0, 2], [1, 3]], [2, [2], [0, 2], [1, 3]]])

    def test_rings_of_one(self):
        calls = [begins([0, 0]), trip(0, 0, 0, 10), trip(1, 1, 0, 2000)]
        self.assertEqual(ask_last(*calls, DAILY), [3, [1], [0], [1]])

    def test_a_ring_of_two(self):
        self.assertEqual(daily_of((0, 10), (10, 20)), [1, [1], [0, 1]])
        self.assertEqual(ask_last(begins([0, 0]), trip(0, 1, 0, 10), trip(1, 0, 10, 20), DAILY), [1, [1], [0, 1]])
        self.assertEqual(ask_last(begins([0, 0]), trip(0, 1, 0, 10), trip(1, 0, 9, 20), DAILY), [2, [1], [0, 1]])

    def test_a_ring_of_several(self):
        calls = [begins([0, 0, 0]), trip(0, 1, 0, 10), trip(2, 0, 40, 50), trip(1, 2, 20, 30)]
        self.assertEqual(ask_last(*calls, DAILY), [1, [1], [0, 2, 1]])
        # the same the other way about in time: each but one change takes a day
        calls = [begins([0, 0, 0]), trip(0, 1, 40, 50), trip(2, 0, 0, 10), trip(1, 2, 20, 30)]
        self.assertEqual(ask_last(*calls, DAILY), [2, [1], [0, 2, 1]])

    def test_no_days_within_a_ring(self):
        calls = [begins([5] * 4)] + [trip(k, (k + 1) % 4, 100 * k, 100 * k + 95) for k in range(4)]
        self.assertEqual(ask_last(*calls, DAILY), [1, [1], [0, 1, 2, 3]])

    def test_how_many_rows(self):
        self.assertEqual(daily_of((0, 10), (0, 10)), [2, [2], [0], [1]])
        self.assertEqual(daily_of((0, 10), (0, 10), (0, 10)), [3, [6], [0], [1], [2]])
        # with a day each, a ring of two or two of one need as many
        self.assertEqual(daily_of((0, 1440), (0, 1440)), [2, [2], [0], [1]])

    def test_the_first_of_several(self):
        # behind each of the early ones one of the late, behind each of the late one of the early
        self.assertEqual(daily_of((0, 10), (0, 10), (10, 20), (10, 20)), [2, [4], [0, 2], [1, 3]])
        # trip 0 is last of all and two run at once ahead of it: the lesser stands first behind trip 1 too
        self.assertEqual(daily_of((100, 110), (0, 10), (20, 30), (20, 30)), [2, [8], [0, 1, 2], [3]])

    def test_the_least_follower_would_need_more(self):
        # trip 2 behind trip 0 takes no day, all else at least one; trip 0 behind trip 2 takes two
        self.assertEqual(daily_of((0, 10), (5, 20), (10, 1444)), [2, [1], [0, 2, 1]])

    def test_each_ring_from_its_least_trip(self):
        calls = [begins([0, 0]), trip(1, 1, 100, 110), trip(0, 0, 100, 110), trip(0, 0, 50, 60), trip(1, 1, 50, 60),
                 trip(0, 0, 0, 10), trip(1, 1, 0, 10)]
        self.assertEqual(ask_last(*calls, DAILY), [2, [1], [0, 5, 3], [1, 4, 2]])

    def test_rings_by_their_least_trips(self):
        calls = [begins([0, 0, 0]), trip(2, 2, 0, 10), trip(1, 1, 50, 60), trip(0, 0, 0, 10), trip(1, 1, 0, 10),
                 trip(0, 0, 50, 60)]
        self.assertEqual(ask_last(*calls, DAILY), [3, [1], [0], [1, 3], [2, 4]])

    def test_ten_trips(self):
        self.assertEqual(daily_of(*[(0, 10)] * 10), [10, [3628800]] + [[k] for k in range(10)])
        self.assertEqual(daily_of(*[(10 * k, 10 * k + 10) for k in range(10)]), [1, [1], list(range(10))])
        self.assertEqual(daily_of(*[(0, 10)] * 5, *[(10, 20)] * 5), [5, [14400]] + [[k, k + 5] for k in range(5)])
        self.assertEqual(daily_of(*[(0, 10000)] * 10)[:2], [70, [3628800]])

    def test_ten_trips_over_ten_stops(self):
        trips = [trip(k, (k + 1) % 10, 10 * k, 10 * k + 4) for k in range(10)]
        self.assertEqual(ask_last(begins([6] * 10), *trips, DAILY), [1, [1], list(range(10))])
        self.assertEqual(ask_last(begins([7] * 10), *trips, DAILY), [10, [1], list(range(10))])
        back = [empty((k + 1) % 10, k, 0) for k in range(10)]
        self.assertEqual(ask_last(begins([7] * 10), *back, *trips, DAILY), [10, [2]] + [[k] for k in range(10)])


class AsThePlanIsThen(unittest.TestCase):
    def test_runs(self):
        calls = [begins([0, 0]), trip(0, 1, 0, 10)]
        self.assertEqual(
            ask(*calls, DAILY, empty(1, 0, 1430), DAILY, empty(1, 0, 1431), DAILY, remove(1, 0), DAILY)[2:],
            [-6, 0, [1, [1], [0]], 0, [2, [1], [0]], 0, -6])

    def test_drop(self):
        calls = [begins([0, 0]), trip(0, 1, 0, 10), trip(0, 0, 0, 10), trip(1, 0, 10, 20)]
        self.assertEqual(ask(*calls, DAILY, drop(0), DAILY, drop(1), DAILY, drop(0), DAILY)[4:],
                         [[2, [2], [0, 2, 1]], 0, -6, 0, [1, [1], [0]], 0, [0, [1]]])

    def test_begins(self):
        calls = [begins([0, 0]), empty(1, 0, 5), trip(0, 1, 0, 10)]
        self.assertEqual(ask(*calls, DAILY, begins([0, 0]), DAILY, trip(0, 1, 0, 10), DAILY)[3:],
                         [[1, [1], [0]], 2, [0, [1]], 0, -6])

    def test_refused_it_changes_nothing(self):
        calls = [begins([0, 0]), trip(0, 1, 0, 10), trip(1, 1, 20, 30)]
        self.assertEqual(ask(*calls, UNITS, DAILY, UNITS, trip(1, 0, 40, 50), DAILY)[3:],
                         [[1, [1], [0, 1]], -6, [1, [1], [0, 1]], 2, [1, [1], [0, 1, 2]]])


if __name__ == "__main__":
    unittest.main()
