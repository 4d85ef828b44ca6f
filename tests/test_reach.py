import math
import unittest
import unittest.mock

from taxirank.hire import Hire, seconds_till_drop
from tests.lines import (DAYTIME, HALVES, NIGHT, PLAIN, QUICK, ask, begin, drive, drops, extra, fare, hire, join, last,
                         next_drop, pay, rank, reach, take, would)

WIDE = (0, 300, 9999, 9999, 20, 9999, 9999)


class Reach(unittest.TestCase):
    def test_by_metres(self):
        told = ask(begin(PLAIN), hire(0), reach(0, 10, 150), reach(1, 10, 150), reach(2, 10, 150), reach(200, 10, 150))
        self.assertEqual(told[2:], [[1000, 1], [1100, 1], [1200, 1], [21000, 1]])

    def test_by_seconds(self):
        # 120 s, then 20 s each, at 4 m a second.
        told = ask(begin(PLAIN), hire(0), reach(0, 1, 4), reach(1, 1, 4), reach(200, 1, 4))
        self.assertEqual(told[2:], [[480, 1], [560, 1], [16480, 1]])

    def test_whichever_goes_faster(self):
        # 120 s at 8 m a second, then 100 m each.
        told = ask(begin(PLAIN), hire(0), reach(0, 1, 8), reach(1, 1, 8), reach(200, 2, 16))
        self.assertEqual(told[2:], [[960, 1], [1060, 1], [20960, 1]])

    def test_at_speed_0(self):
        told = ask(begin(PLAIN), hire(0), reach(0, 1, 0), reach(1, 20000, 0), reach(200, 7, 0), drive(130, 0),
                   reach(0, 1, 0))
        self.assertEqual(told[2:5], [[0, 1]] * 3)
        self.assertEqual(told[6], [0, 1])

    def test_in_lowest_terms(self):
        told = ask(begin(PLAIN), hire(0), reach(0, 7, 10), reach(0, 14, 20), reach(1, 7, 10), reach(2, 7, 10))
        self.assertEqual(told[2:], [[1200, 7], [1200, 7], [200, 1], [1600, 7]])
        for n in range(40):
            above, below = last(begin(DAYTIME, NIGHT), hire(21590), drive(33, 100), reach(n, 13, 97))
            self.assertGreater(below, 0)
            self.assertEqual(math.gcd(above, below), 1)

    def test_from_where_the_hire_is(self):
        told = ask(begin(PLAIN), hire(0), drive(130, 0), reach(0, 1, 15), reach(1, 1, 15), reach(0, 1, 4),
                   drive(10, 0), reach(0, 1, 15), reach(3, 1, 4))
        # Half of a drop is gone; then one has just fallen.
        self.assertEqual(told[3:6], [[50, 1], [150, 1], [40, 1]])
        self.assertEqual(told[7:], [[100, 1], [320, 1]])

    def test_as_far_as_the_next_drop(self):
        for s, m in ((1, 0), (1, 3), (7, 44), (20000, 1), (20000, 100000), (1, 100000)):
            told = ask(begin(DAYTIME, NIGHT), hire(21555), drive(20, 30), next_drop(s, m), reach(0, s, m))
            seconds, metres = told[3:]
            self.assertEqual(metres[0] * seconds[1] * s, seconds[0] * metres[1] * m)

    def test_so_far_one_comes_with_so_many_drops(self):
        for n in (0, 1, 2, 50, 200):
            start = (begin(PLAIN), hire(86000), drive(37, 100))
            seconds = last(*start, reach(n, 1, 5))[0] // 5
            told = ask(*start, would(seconds, 5 * seconds), drive(seconds - 1, 5 * seconds - 5), drive(1, 5))
            self.assertEqual([one[-1] for one in told[4:]], [n, 1])
            self.assertEqual(told[3], told[5][:1])


class Changes(unittest.TestCase):
    def test_past_a_change_of_tariff(self):
        # 10 s of 50 by night, 80 s of 100 by day; then 20 s each.
        told = ask(begin(DAYTIME, NIGHT), hire(21590), reach(0, 1, 1), reach(1, 1, 1), reach(200, 1, 1))
        self.assertEqual(told[2:], [[90, 1], [110, 1], [4090, 1]])

    def test_behind_the_first_drop(self):
        # 5 s of 20 by day, 7.5 s of 10 by night; then 10 s each.
        told = ask(begin(DAYTIME, NIGHT), hire(79095), drive(100, 0), reach(0, 1, 2), reach(1, 1, 2), reach(2, 1, 3))
        self.assertEqual(told[3:], [[25, 1], [45, 1], [195, 2]])

    def test_drop_falls_just_where_a_tariff_begins_to_hold(self):
        told = ask(begin(DAYTIME, NIGHT), hire(21550), reach(0, 1, 1), reach(1, 1, 1))
        self.assertEqual(told[2:], [[50, 1], [70, 1]])

    def test_past_midnight(self):
        early = (0, 1, 100, 40, 7, 100, 40)
        evening = (80000, 3, 100, 80, 5, 100, 80)
        # 20 s of 80, then 30 s of 40; then 40 s each.
        told = ask(begin(early, evening), hire(86380), reach(0, 1, 1), reach(1, 1, 1))
        self.assertEqual(told[2:], [[50, 1], [90, 1]])
        # By night goes on past midnight, as nothing begins to hold there.
        told = ask(begin(DAYTIME, NIGHT), hire(86390), reach(0, 1, 1), reach(1, 1, 1))
        self.assertEqual(told[2:], [[50, 1], [60, 1]])
        # The same one begins to hold again.
        told = ask(begin(PLAIN), hire(86399), reach(0, 1, 1), reach(1, 1, 1))
        self.assertEqual(told[2:], [[120, 1], [140, 1]])

    def test_past_many_days(self):
        self.assertEqual(last(begin(WIDE), hire(0), reach(200, 2, 1)), [201 * 9999, 2])
        # A drop takes 8640 s of the first half of a day and 4320 s of the second: 15 fall in a day.
        first = (0, 0, 9999, 8640, 1, 9999, 8640)
        second = (43200, 0, 9999, 4320, 1, 9999, 4320)
        told = ask(begin(first, second), hire(0), reach(14, 2, 1), reach(15, 2, 1), reach(149, 2, 1))
        self.assertEqual(told[2:], [[43200, 1], [43200 + 4320, 1], [432000, 1]])


class Stretches(unittest.TestCase):
    # 201 drops take 201 * 9999 seconds at most, and 4 tariffs begin to hold 96 times in these at most: more than 297
    # stretches can't be asked for by a call. So the bound is asked of the function behind it, too.
    def test_as_many_as_can_be_asked_for(self):
        tariffs = [(second,) + WIDE[1:] for second in range(4)]
        self.assertEqual(last(begin(*tariffs), hire(86399), reach(200, 2, 1)), [201 * 9999, 2])

    def test_399_and_400(self):
        quick = Hire([list(QUICK)], 0)
        self.assertEqual(seconds_till_drop(quick, 399, 1, 0), (399, 1))
        self.assertIsNone(seconds_till_drop(quick, 400, 1, 0))

    def test_a_change_where_a_drop_falls(self):
        quick = Hire([list(QUICK)], 86300)
        self.assertEqual(seconds_till_drop(quick, 399, 1, 0), (399, 1))
        self.assertIsNone(seconds_till_drop(quick, 400, 1, 0))

    def test_a_change_between_drops(self):
        halves = Hire([list(HALVES)], 86300)
        self.assertEqual(seconds_till_drop(halves, 398, 1, 2), (795, 2))
        self.assertIsNone(seconds_till_drop(halves, 399, 1, 2))

    def test_no_way_ends_here(self):
        halves = Hire([list(HALVES)], 0)
        self.assertEqual(seconds_till_drop(halves, 399, 1, 2), (797, 2))
        self.assertIsNone(seconds_till_drop(halves, 400, 1, 2))
        # s and m tell the speed: where s seconds end, no stretch does.
        self.assertEqual(seconds_till_drop(Hire([list(QUICK)], 0), 399, 20000, 0), (399, 1))

    def test_too_many_are_refused(self):
        with unittest.mock.patch("taxirank.hire.MOST_STRETCHES", 3):
            told = ask(begin(QUICK), hire(0), drive(2, 0), extra(5), fare(), drops(), reach(2, 1, 1), reach(3, 1, 1),
                       reach(200, 1, 1), reach(201, 1, 1), fare(), drops())
        self.assertEqual(told[6:10], [[3, 1], [-5], [-5], [-1]])
        self.assertEqual(told[10:], told[4:6])


class Refusals(unittest.TestCase):
    def test_past_the_bounds(self):
        for n, s, m in ((201, 1, 1), (500, 1, 1), (0, 0, 0), (0, 0, 1), (0, 20001, 0), (0, 30000, 0), (0, 1, 100001),
                        (0, 1, 200000), (201, 0, 100001), (200, 20001, 0)):
            told = ask(begin(PLAIN), hire(0), extra(7), drive(130, 0), fare(), drops(), reach(n, s, m), fare(), drops())
            self.assertEqual(told[6], [-1], (n, s, m))
            self.assertEqual(told[7:], told[4:6], (n, s, m))

    def test_at_the_bounds(self):
        told = ask(begin(WIDE), hire(0), reach(200, 20000, 100000), reach(200, 1, 100000), reach(0, 1, 0),
                   reach(200, 20000, 0), reach(0, 20000, 1))
        self.assertEqual(told[2:], [[201 * 9999, 1], [201 * 9999, 1], [0, 1], [0, 1], [9999, 20000]])

    def test_no_hire_is_asked_first(self):
        for n, s, m in ((0, 1, 1), (201, 1, 1), (0, 0, 0), (500, 30000, 200000)):
            self.assertEqual(ask(reach(n, s, m)), [[-6]])
            self.assertEqual(last(begin(PLAIN), reach(n, s, m)), [-6])
            self.assertEqual(last(begin(PLAIN), hire(0), pay(), reach(n, s, m)), [-6])


class NothingChanges(unittest.TestCase):
    def test_all_is_as_it_was(self):
        asked = (reach(0, 1, 0), reach(1, 1, 99), reach(200, 1, 1), reach(200, 20000, 100000), reach(201, 1, 1),
                 reach(0, 0, 0))
        after = (fare(), drops(), rank(), drive(33, 100), fare(), drops(), pay())
        for start in ((begin(DAYTIME, NIGHT), join(3), hire(21595)),
                      (begin(PLAIN), join(3), take(5), hire(86399), extra(5), drive(137, 0))):
            for one in asked:
                plain = ask(*start, *after)
                told = ask(*start, one, one, *after)
                self.assertEqual(told[:len(start)] + told[len(start) + 2:], plain)
                self.assertEqual(told[len(start)], told[len(start) + 1])


if __name__ == "__main__":
    unittest.main()
