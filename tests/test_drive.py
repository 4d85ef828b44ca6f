import unittest

from tests.lines import DAYTIME, HALVES, NIGHT, PLAIN, QUICK, ask, begin, drive, drops, extra, fare, hire, last


class Drive(unittest.TestCase):
    def test_by_metres(self):
        # 15 m a second: the first drop at 1000 m, then one for each 100 m, the last just at the end.
        told = ask(begin(PLAIN), hire(0), drive(100, 1500), fare(), drops())
        self.assertEqual(told[2:], [[420, 6], [420, 0, 6, 0, 1, 0],
                                    [6, 200, 3, 220, 3, 80, 1, 260, 3, 280, 3, 100, 1]])

    def test_by_seconds_at_speed_0(self):
        told = ask(begin(PLAIN), hire(0), drive(170, 0), fare(), drops())
        self.assertEqual(told[2:], [[360, 3], [360, 0, 3, 1, 2, 0], [3, 120, 1, 140, 1, 160, 1]])

    def test_whichever_goes_faster(self):
        # At 8 m a second the seconds (120) are ahead of 1000 m; behind the first drop 100 m are ahead of 20 s.
        told = ask(begin(PLAIN), hire(0), drive(140, 8 * 140), fare(), drops())
        self.assertEqual(told[2:], [[340, 2], [340, 0, 2, 3, 5, 0], [2, 120, 1, 265, 2]])

    def test_both_equally_fast(self):
        told = ask(begin((0, 300, 1000, 100, 20, 200, 20)), hire(0), drive(130, 1300), fare())
        self.assertEqual(told[2:], [[340, 2], [340, 0, 2, 1, 2, 0]])

    def test_tells_the_drops_of_this_way_alone(self):
        told = ask(begin(PLAIN), hire(0), drive(120, 0), drive(19, 0), drive(1, 0), drive(40, 0), fare())
        self.assertEqual(told[2:], [[320, 1], [320, 0], [340, 1], [380, 2], [380, 0, 4, 0, 1, 0]])

    def test_tells_the_fare_with_extras(self):
        self.assertEqual(last(begin(PLAIN), hire(0), extra(55), drive(120, 0)), [375, 1])

    def test_what_is_gone_of_a_drop_adds_up_over_ways(self):
        told = ask(begin(PLAIN), hire(0), drive(60, 0), drive(10, 250), drive(30, 0), drive(1, 0), fare(), drops())
        self.assertEqual(told[2:], [[300, 0], [300, 0], [320, 1], [320, 0], [320, 0, 1, 1, 20, 0], [1, 100, 1]])

    def test_drop_falls_just_where_the_way_ends(self):
        self.assertEqual(last(begin(PLAIN), hire(0), drive(119, 0)), [300, 0])
        told = ask(begin(PLAIN), hire(0), drive(120, 0), fare())
        self.assertEqual(told[2:], [[320, 1], [320, 0, 1, 0, 1, 0]])


class Changes(unittest.TestCase):
    def test_goes_on_by_the_tariff_that_begins_to_hold(self):
        # 10 s of 50 by night, then 40 s of 100 by day: a part of a drop stays a part of a drop.
        told = ask(begin(DAYTIME, NIGHT), hire(21590), drive(50, 0), fare(), drive(40, 0), fare(), drops())
        self.assertEqual(told[2:], [[500, 0], [500, 0, 0, 3, 5, 0], [520, 1], [520, 0, 1, 0, 1, 0], [1, 90, 1]])

    def test_behind_the_first_drop_too(self):
        told = ask(begin(DAYTIME, NIGHT), hire(79095), drive(100, 0), drive(20, 0), fare(), drops())
        # The first falls at 100 s; 5 s of 20 by day, then 7.5 s of 10 by night, then 7.5 s of the next.
        self.assertEqual(told[2:], [[320, 1], [360, 1], [360, 0, 2, 3, 4, 1], [2, 100, 1, 225, 2]])

    def test_drop_falls_just_where_a_tariff_begins_to_hold(self):
        told = ask(begin(DAYTIME, NIGHT), hire(21550), drive(60, 0), fare(), drops())
        self.assertEqual(told[2:], [[520, 1], [520, 0, 1, 1, 2, 0], [1, 50, 1]])

    def test_drop_falls_a_second_ahead_of_that(self):
        told = ask(begin(DAYTIME, NIGHT), hire(21549), drive(60, 0), fare(), drops())
        # 1 s of 10 by night, then 9 s of 20 by day.
        self.assertEqual(told[2:], [[540, 1], [540, 0, 1, 11, 20, 0], [1, 50, 1]])

    def test_drop_falls_half_a_second_ahead_of_that(self):
        told = ask(begin(DAYTIME, NIGHT), hire(21550), drive(99, 2000), fare(), drops())
        times = [99, 2, 1089, 20, 297, 5, 1287, 20, 693, 10, 297, 4, 396, 5, 1683, 20, 891, 10, 1881, 20, 99, 1]
        self.assertEqual(told[2:], [[740, 11], [740, 0, 11, 0, 1, 0], [11] + times])

    def test_tariff_begins_just_where_the_way_ends(self):
        told = ask(begin(DAYTIME, NIGHT), hire(21590), drive(10, 0), fare(), drive(80, 0), fare())
        self.assertEqual(told[2:], [[500, 0], [500, 0, 0, 1, 5, 0], [520, 1], [520, 0, 1, 0, 1, 0]])

    def test_all_at_once(self):
        told = ask(begin(DAYTIME, NIGHT), hire(21550), drive(50, 0), fare(), drops())
        self.assertEqual(told[2:], [[520, 1], [520, 0, 1, 0, 1, 0], [1, 50, 1]])

    def test_past_midnight_with_one_tariff(self):
        told = ask(begin(PLAIN), hire(86390), drive(130, 0), fare(), drops())
        self.assertEqual(told[2:], [[320, 1], [320, 0, 1, 1, 2, 0], [1, 120, 1]])
        told = ask(begin(NIGHT), hire(86390), drive(55, 0), fare(), drops())
        self.assertEqual(told[2:], [[540, 1], [540, 0, 1, 1, 2, 0], [1, 50, 1]])

    def test_past_midnight_with_several(self):
        # By night goes on past midnight, as nothing begins to hold there.
        told = ask(begin(DAYTIME, NIGHT), hire(86390), drive(55, 0), fare())
        self.assertEqual(told[2:], [[540, 1], [540, 0, 1, 1, 2, 1]])
        # One that begins to hold at midnight, and one just behind it.
        early = (0, 1, 100, 40, 7, 100, 40)
        later = (30, 2, 100, 20, 9, 100, 30)
        evening = (80000, 3, 100, 80, 5, 100, 80)
        told = ask(begin(early, later, evening), hire(86380), drive(60, 0), fare(), drops())
        # 20 s of 80, 30 s of 40: the first falls just as the later one begins; 10 s of its 30.
        self.assertEqual(told[2:], [[12, 1], [12, 0, 1, 1, 3, 1], [1, 50, 1]])

    def test_for_more_than_a_day(self):
        slow = (21600, 300, 9999, 9999, 20, 9999, 9999)
        fast = (79200, 500, 9999, 9999, 40, 9999, 9999)
        told = ask(begin(slow, fast), hire(0), *[drive(20000, 0)] * 5, fare(), drops())
        times = [number for fall in range(1, 11) for number in (9999 * fall, 1)]
        self.assertEqual(told[2:7], [[580, 2], [620, 2], [660, 2], [720, 2], [800, 2]])
        self.assertEqual(told[7:], [[800, 0, 10, 10, 9999, 1], [10] + times])


class Stretches(unittest.TestCase):
    def refused(self, *calls):
        """That the last of these is too long, and that it changes nothing."""
        before = ask(*calls[:-1], fare(), drops())
        told = ask(*calls, fare(), drops())
        self.assertEqual(told[-3], [-5])
        self.assertEqual(told[-2:], before[-2:])

    def test_drops_the_last_where_the_way_ends(self):
        self.assertEqual(last(begin(QUICK), hire(0), drive(399, 0)), [399, 399])
        self.refused(begin(QUICK), hire(0), drive(400, 0))
        self.refused(begin(QUICK), hire(0), drive(20000, 0))

    def test_drops_and_the_end(self):
        self.assertEqual(last(begin(HALVES), hire(0), drive(398, 796)), [398, 398])
        self.refused(begin(HALVES), hire(0), drive(399, 798))

    def test_a_change_between_drops(self):
        # The one tariff begins to hold again at midnight, and that ends a stretch.
        self.assertEqual(last(begin(HALVES), hire(86300), drive(397, 794)), [397, 397])
        self.refused(begin(HALVES), hire(86300), drive(398, 796))

    def test_a_change_where_a_drop_falls(self):
        self.assertEqual(last(begin(QUICK), hire(86300), drive(399, 0)), [399, 399])
        self.refused(begin(QUICK), hire(86300), drive(400, 0))

    def test_a_change_where_the_way_ends(self):
        self.assertEqual(last(begin(HALVES), hire(86400 - 398), drive(398, 796)), [398, 398])
        self.refused(begin(HALVES), hire(86400 - 399), drive(399, 798))

    def test_all_at_once(self):
        self.assertEqual(last(begin(QUICK), hire(86400 - 399), drive(399, 0)), [399, 399])
        self.refused(begin(QUICK), hire(86400 - 400), drive(400, 0))

    def test_a_change_where_the_way_begins(self):
        self.assertEqual(last(begin(HALVES), hire(86390), drive(10, 20), drive(398, 796)), [408, 398])
        self.refused(begin(HALVES), hire(86390), drive(10, 20), drive(399, 798))

    def test_each_way_counts_anew(self):
        told = ask(begin(QUICK), hire(0), drive(399, 0), drive(400, 0), drive(399, 0), fare())
        self.assertEqual(told[2:], [[399, 399], [-5], [798, 399], [798, 0, 798, 0, 1, 0]])

    def test_several_changes(self):
        others = [(second,) + HALVES[1:] for second in (100, 200, 300)]
        self.assertEqual(last(begin(HALVES, *others), hire(50), drive(395, 790)), [395, 395])
        self.refused(begin(HALVES, *others), hire(50), drive(396, 792))


class Bounds(unittest.TestCase):
    def test_at_the_bounds(self):
        wide = (0, 300, 9999, 9999, 20, 9999, 9999)
        self.assertEqual(last(begin(wide), hire(0), drive(1, 0)), [300, 0])
        self.assertEqual(last(begin(wide), hire(0), drive(20000, 0)), [340, 2])
        self.assertEqual(last(begin(wide), hire(0), drive(20000, 100000)), [500, 10])
        told = ask(begin(wide), hire(0), drive(1, 100000), drops())
        times = [number for fall in range(1, 11) for number in (9999 * fall, 100000)]
        self.assertEqual(told[2], [500, 10])
        self.assertEqual(told[3][:5], [10, 9999, 100000, 9999, 50000])
        self.assertEqual([above * 100000 // below for above, below in zip(told[3][1::2], told[3][2::2])], times[::2])

    def test_past_the_bounds(self):
        for s, m in ((0, 0), (0, 1), (20001, 0), (30000, 0), (1, 100001), (1, 200000), (0, 100001), (20001, 100001)):
            told = ask(begin(PLAIN), hire(0), extra(7), drive(130, 0), fare(), drops(), drive(s, m), fare(), drops())
            self.assertEqual(told[6], [-1], (s, m))
            self.assertEqual(told[7:], told[4:6], (s, m))

    def test_wrong_numbers_are_asked_ahead_of_stretches(self):
        self.assertEqual(last(begin(QUICK), hire(0), drive(20001, 0)), [-1])
        self.assertEqual(last(begin(QUICK), hire(0), drive(400, 100001)), [-1])


if __name__ == "__main__":
    unittest.main()
