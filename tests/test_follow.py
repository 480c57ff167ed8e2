"""follow: how many days later, and when the unit is ready."""

import unittest

from calling import TOP, ask, ask_last, at_one_stop, begins, drop, empty, follow, remove, trip

# Trip 0 ends at stop 1 at minute 200; each stop has a turn of its own.
TURNS = begins([5, 7, 11])
TO_ONE = trip(0, 1, 100, 200)


class Ready(unittest.TestCase):
    def test_the_same_stop(self):
        for first, days in ((0, 1), (206, 1), (207, 0), (208, 0), (9000, 0)):
            self.assertEqual(ask_last(TURNS, TO_ONE, trip(1, 2, first, 9001), follow(0, 1)), [days, [207]])

    def test_the_same_stop_asks_for_no_run(self):
        self.assertEqual(ask_last(TURNS, empty(1, 0, 9), empty(0, 1, 9), empty(1, 2, 9), TO_ONE, trip(1, 2, 300, 400),
                                  follow(0, 1)), [0, [207]])

    def test_an_empty_run(self):
        for first, days in ((0, 1), (236, 1), (237, 0), (238, 0)):
            self.assertEqual(ask_last(TURNS, empty(1, 2, 30), TO_ONE, trip(2, 0, first, 400), follow(0, 1)),
                             [days, [237]])

    def test_a_run_and_a_turn_of_no_minutes(self):
        self.assertEqual(ask_last(TURNS, empty(1, 2, 0), TO_ONE, trip(2, 0, 207, 400), follow(0, 1)), [0, [207]])
        self.assertEqual(ask_last(begins([9, 0, 9]), empty(1, 2, 0), TO_ONE, trip(2, 0, 200, 400), follow(0, 1)),
                         [0, [200]])

    def test_no_run(self):
        self.assertEqual(ask_last(TURNS, TO_ONE, trip(2, 1, 300, 400), follow(0, 1)), -6)

    def test_a_run_of_other_stops(self):
        for run in (empty(2, 1, 30), empty(1, 0, 30), empty(0, 2, 30), empty(2, 0, 30), empty(0, 1, 30)):
            self.assertEqual(ask_last(TURNS, run, TO_ONE, trip(2, 1, 300, 400), follow(0, 1)), -6)

    def test_two_runs_one_behind_the_other_are_none(self):
        self.assertEqual(ask_last(TURNS, empty(1, 0, 1), empty(0, 2, 1), TO_ONE, trip(2, 1, 300, 400), follow(0, 1)),
                         -6)

    def test_removed_and_set_anew(self):
        self.assertEqual(
            ask(TURNS, TO_ONE, trip(2, 0, 300, 400), follow(0, 1), empty(1, 2, 30), follow(0, 1), empty(1, 2, 94),
                follow(0, 1), remove(2, 1), follow(0, 1), remove(1, 2), follow(0, 1), empty(1, 2, 1), follow(0, 1))[3:],
            [-6, 0, [0, [237]], 0, [1, [301]], 0, [1, [301]], 0, -6, 0, [0, [208]]])

    def test_which_follows_which(self):
        self.assertEqual(ask(TURNS, TO_ONE, trip(1, 0, 300, 400), follow(0, 1), follow(1, 0))[3:],
                         [[0, [207]], [1, [405]]])

    def test_behind_itself(self):
        self.assertEqual(ask_last(TURNS, trip(1, 1, 100, 200), follow(0, 0)), [1, [207]])
        self.assertEqual(ask_last(TURNS, TO_ONE, follow(0, 0)), -6)
        self.assertEqual(ask_last(TURNS, empty(0, 1, 10), TO_ONE, follow(0, 0)), -6)
        self.assertEqual(ask_last(TURNS, empty(1, 0, 10), TO_ONE, follow(0, 0)), [1, [217]])


class Days(unittest.TestCase):
    def test_just_ready_and_a_minute_late(self):
        for days in range(7):
            ready = 100 + 1440 * days
            for late, told in ((-1, days), (0, days), (1, days + 1)):
                self.assertEqual(ask_last(*at_one_stop((50, ready + late - 3), (100, 200), turn=3), follow(0, 1)),
                                 [told, [ready + late]])

    def test_the_longest(self):
        calls = [begins([1440, 0]), empty(0, 1, 1440), trip(0, 0, 0, 10000), trip(1, 0, 0, 1), trip(1, 0, 1360, 1361),
                 trip(1, 0, 1359, 1361)]
        self.assertEqual(ask(*calls, follow(0, 1), follow(0, 2), follow(0, 3), follow(0, 0))[6:],
                         [[9, [12880]], [8, [12880]], [9, [12880]], [8, [11440]]])

    def test_never_fewer_than_none(self):
        self.assertEqual(ask_last(*at_one_stop((0, 1), (9999, 10000)), follow(0, 1)), [0, [1]])

    def test_a_trip_longer_than_a_day(self):
        self.assertEqual(ask_last(*at_one_stop((10, 1450)), follow(0, 0)), [1, [1450]])
        self.assertEqual(ask_last(*at_one_stop((10, 1451)), follow(0, 0)), [2, [1451]])


class Refused(unittest.TestCase):
    def test_no_such_trip(self):
        calls = at_one_stop((0, 1), (1, 2))
        for i, j in ((2, 0), (0, 2), (2, 2), (TOP, 0), (0, TOP), (TOP, TOP), (10, 1), (1, 10)):
            self.assertEqual(ask_last(*calls, follow(i, j)), -2)

    def test_no_trips(self):
        self.assertEqual(ask(follow(0, 0), begins([1]), follow(0, 0), follow(0, TOP)), [-2, 1, -2, -2])

    def test_no_such_trip_is_told_first(self):
        calls = [begins([1, 1]), trip(0, 1, 0, 1)]
        self.assertEqual(ask(*calls, follow(0, 0), follow(0, 1), follow(1, 0))[2:], [-6, -2, -2])

    def test_all_is_as_it_was(self):
        calls = [TURNS, empty(1, 2, 30), TO_ONE, trip(2, 0, 300, 400)]
        self.assertEqual(ask(*calls, follow(1, 1), follow(0, 2), follow(0, 1), trip(0, 0, 1, 2), follow(1, 2))[4:],
                         [-6, -2, [0, [237]], 2, [1, [405]]])


class AsThePlanIsThen(unittest.TestCase):
    def test_behind_drop(self):
        calls = at_one_stop((0, 10), (20, 30), (40, 50))
        self.assertEqual(ask(*calls, follow(0, 2), drop(0), follow(0, 1), follow(0, 2))[4:],
                         [[0, [10]], 0, [0, [30]], -2])

    def test_behind_begins(self):
        self.assertEqual(
            ask(TURNS, empty(1, 2, 30), TO_ONE, trip(2, 0, 300, 400), begins([5, 8, 11]), follow(0, 1), TO_ONE,
                trip(2, 0, 300, 400), trip(1, 0, 300, 400), follow(0, 1), follow(0, 2))[4:],
            [3, -2, 0, 1, 2, -6, [0, [208]]])


if __name__ == "__main__":
    unittest.main()
