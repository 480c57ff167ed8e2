"""What a plan holds behind each call, seen in the plan itself."""

import unittest

from tripunits.plan import Plan

TOP = 4294967295


def small_plan():
    plan = Plan()
    plan.begin([5, 0, 1440])
    plan.set_run(0, 1, 30)
    plan.set_run(1, 0, 40)
    for k in range(4):
        plan.add_trip(k % 3, 2, 10 * k, 10 * k + 5)
    return plan


def held(plan):
    return (list(plan.turns), dict(plan.runs), list(plan.trips))


class Plans(unittest.TestCase):
    def test_at_first(self):
        self.assertEqual(held(Plan()), ([], {}, []))

    def test_filled(self):
        trips = [(0, 2, 0, 5), (1, 2, 10, 15), (2, 2, 20, 25), (0, 2, 30, 35)]
        self.assertEqual(held(small_plan()), ([5, 0, 1440], {(0, 1): 30, (1, 0): 40}, trips))

    def test_begin_once_more(self):
        plan = small_plan()
        self.assertEqual(plan.begin([7, 8, 9]), 3)
        self.assertEqual(held(plan), ([7, 8, 9], {}, []))
        self.assertEqual(plan.begin([]), 0)
        self.assertEqual(held(plan), ([], {}, []))

    def test_begin_copies_the_turns(self):
        plan = Plan()
        turns = [1, 2]
        plan.begin(turns)
        turns[0] = 9
        self.assertEqual(plan.turns, [1, 2])

    def test_set_anew(self):
        plan = small_plan()
        self.assertEqual(plan.set_run(0, 1, 31), 0)
        self.assertEqual(plan.runs, {(0, 1): 31, (1, 0): 40})
        self.assertEqual(plan.set_run(1, 2, 0), 0)
        self.assertEqual(plan.runs, {(0, 1): 31, (1, 0): 40, (1, 2): 0})

    def test_remove(self):
        plan = small_plan()
        self.assertEqual(plan.remove_run(0, 1), 0)
        self.assertEqual(plan.runs, {(1, 0): 40})
        self.assertEqual(plan.remove_run(0, 1), 0)
        self.assertEqual(plan.runs, {(1, 0): 40})
        self.assertEqual(plan.remove_run(1, 0), 0)
        self.assertEqual(plan.runs, {})

    def test_runs_leave_the_rest(self):
        plan = small_plan()
        turns, runs, trips = held(plan)
        plan.set_run(2, 1, 1440)
        plan.remove_run(2, 1)
        self.assertEqual(held(plan), (turns, runs, trips))

    def test_drop_moves_up(self):
        for k in range(4):
            plan = small_plan()
            turns, runs, trips = held(plan)
            self.assertEqual(plan.drop_trip(k), 0)
            self.assertEqual(held(plan), (turns, runs, trips[:k] + trips[k + 1:]))

    def test_a_new_trip_stands_last(self):
        plan = small_plan()
        plan.drop_trip(1)
        self.assertEqual(plan.add_trip(1, 1, 0, 10000), 3)
        self.assertEqual(plan.trips, [(0, 2, 0, 5), (2, 2, 20, 25), (0, 2, 30, 35), (1, 1, 0, 10000)])

    def test_refused_all_is_as_it_was(self):
        plan = small_plan()
        before = held(plan)
        told = [
            plan.begin([1] * 11), plan.begin([1, 1441]), plan.begin([TOP]),
            plan.set_run(0, 3, 1), plan.set_run(3, 0, 1), plan.set_run(0, 0, 1), plan.set_run(0, 1, 1441),
            plan.remove_run(0, 3), plan.remove_run(3, 1), plan.remove_run(1, 1),
            plan.add_trip(0, 3, 1, 2), plan.add_trip(0, 1, 2, 2), plan.add_trip(0, 1, 2, 10001),
            plan.drop_trip(4), plan.drop_trip(TOP)]
        self.assertEqual(told, [-1, -1, -1, -2, -2, -1, -1, -2, -2, -1, -2, -1, -1, -2, -2])
        self.assertEqual(held(plan), before)

    def test_a_full_plan_is_as_it_was(self):
        plan = small_plan()
        for k in range(4, 10):
            self.assertEqual(plan.add_trip(0, 1, 1, 2), k)
        before = held(plan)
        self.assertEqual(plan.add_trip(0, 1, 3, 4), -5)
        self.assertEqual(held(plan), before)


if __name__ == "__main__":
    unittest.main()
