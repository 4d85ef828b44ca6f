import unittest

from tests.lines import (DAYTIME, HALVES, NIGHT, PLAIN, QUICK, ask, begin, drive, drops, extra, fare, hire, last,
                         next_drop, would)


class Next(unittest.TestCase):
    def test_the_first_drop(self):
        self.assertEqual(last(begin(PLAIN), hire(0), next_drop(1, 0)), [120, 1])
        self.assertEqual(last(begin(PLAIN), hire(0), next_drop(10, 150)), [200, 3])
        self.assertEqual(last(begin(PLAIN), hire(0), next_drop(1, 8)), [120, 1])

    def test_a_later_drop(self):
        told = ask(begin(PLAIN), hire(0), drive(130, 0), next_drop(1, 0), next_drop(1, 15), next_drop(20000, 1))
        self.assertEqual(told[3:], [[10, 1], [10, 3], [10, 1]])

    def test_when_it_has_just_fallen(self):
        self.assertEqual(last(begin(PLAIN), hire(0), drive(120, 0), next_drop(1, 0)), [20, 1])

    def test_from_now_on_and_in_lowest_terms(self):
        told = ask(begin(PLAIN), hire(0), drive(150, 0), next_drop(7, 70), next_drop(3, 44), next_drop(6, 88))
        self.assertEqual(told[3:], [[5, 1], [75, 22], [75, 22]])

    def test_where_another_tariff_begins_to_hold(self):
        # 10 s of 50 by night, then 80 s of 100 by day.
        self.assertEqual(last(begin(DAYTIME, NIGHT), hire(21590), next_drop(1, 0)), [90, 1])
        # Just where it begins to hold.
        self.assertEqual(last(begin(DAYTIME, NIGHT), hire(21550), next_drop(1, 0)), [50, 1])
        # It has begun to hold: 50 s of 100 are to go.
        self.assertEqual(last(begin(DAYTIME, NIGHT), hire(21575), drive(25, 0), next_drop(1, 0)), [50, 1])

    def test_past_midnight(self):
        self.assertEqual(last(begin(PLAIN), hire(86399), next_drop(1, 0)), [120, 1])
        self.assertEqual(last(begin(DAYTIME, NIGHT), hire(86399), next_drop(1, 0)), [50, 1])
        early = (0, 1, 100, 40, 7, 100, 40)
        evening = (80000, 3, 100, 80, 5, 100, 80)
        self.assertEqual(last(begin(early, evening), hire(86380), next_drop(1, 0)), [50, 1])

    def test_the_longest_and_the_shortest(self):
        wide = (0, 0, 9999, 9999, 1, 9999, 9999)
        self.assertEqual(last(begin(wide), hire(80000), next_drop(20000, 0)), [9999, 1])
        self.assertEqual(last(begin((0, 0, 1, 9999, 1, 1, 1)), hire(0), next_drop(1, 100000)), [1, 100000])

    def test_several_changes_on_the_way(self):
        tariffs = [(second, 0, 9999, seconds, 1, 9999, 1) for second, seconds in
                   ((10, 1000), (20, 100), (30, 50), (40, 3000))]
        # 10 s of 1000, 10 of 100, 10 of 50; what is left, 69 of 100, of 3000.
        self.assertEqual(last(begin(*tariffs), hire(10), next_drop(1, 0)), [30 + 2070, 1])

    def test_past_the_bounds(self):
        for s, m in ((0, 0), (0, 1), (20001, 0), (30000, 0), (1, 100001), (1, 200000)):
            told = ask(begin(PLAIN), hire(0), drive(130, 0), fare(), drops(), next_drop(s, m), fare(), drops())
            self.assertEqual(told[5], [-1])
            self.assertEqual(told[6:], told[3:5])


class Would(unittest.TestCase):
    def test_what_drive_would_tell(self):
        for s, m in ((1, 0), (119, 0), (120, 0), (170, 0), (100, 1500), (20, 9999)):
            told = ask(begin(PLAIN), hire(0), extra(9), would(s, m), drive(s, m))
            self.assertEqual(told[3], told[4][:1])
        self.assertEqual(last(begin(PLAIN), hire(0), extra(9), would(100, 1500)), [429])

    def test_from_where_the_hire_is(self):
        told = ask(begin(DAYTIME, NIGHT), hire(21500), drive(95, 0), would(5, 0), would(30, 0), would(25, 0))
        # The first at 50 s, then each 10 s by night; at 100 s one falls just as by day begins.
        self.assertEqual(told[2:], [[700, 5], [720], [740], [740]])

    def test_stretches(self):
        told = ask(begin(QUICK), hire(0), would(399, 0), would(400, 0), would(399, 0))
        self.assertEqual(told[2:], [[399], [-5], [399]])
        told = ask(begin(HALVES), hire(86300), would(397, 794), would(398, 796))
        self.assertEqual(told[2:], [[397], [-5]])

    def test_past_the_bounds(self):
        for s, m in ((0, 0), (0, 1), (20001, 0), (30000, 0), (1, 100001), (1, 200000)):
            told = ask(begin(QUICK), hire(0), drive(130, 0), fare(), drops(), would(s, m), fare(), drops())
            self.assertEqual(told[5], [-1])
            self.assertEqual(told[6:], told[3:5])

    def test_at_the_bounds(self):
        wide = (0, 300, 9999, 9999, 20, 9999, 9999)
        told = ask(begin(wide), hire(0), would(1, 0), would(20000, 100000), would(1, 100000), next_drop(20000, 100000))
        self.assertEqual(told[2:], [[300], [500], [500], [9999, 5]])


class NothingChanges(unittest.TestCase):
    def test_all_is_as_it_was(self):
        asked = (next_drop(1, 0), next_drop(1, 99), would(130, 0), would(100, 1500), next_drop(20000, 100000),
                 would(20000, 0), would(399, 9999), next_drop(0, 0), would(20001, 0))
        for start in ((begin(DAYTIME, NIGHT), hire(21595)), (begin(PLAIN), hire(86399), extra(5), drive(137, 0))):
            for one in asked:
                plain = ask(*start, fare(), drops(), drive(33, 100), fare(), drops())
                told = ask(*start, one, fare(), drops(), one, one, drive(33, 100), fare(), drops())
                first = len(start)
                self.assertEqual(told[:first], plain[:first])
                self.assertEqual(told[first + 1:first + 3], plain[first:first + 2])
                self.assertEqual(told[first + 5:], plain[first + 2:])
                self.assertEqual(told[first], told[first + 3])
                self.assertEqual(told[first], told[first + 4])


if __name__ == "__main__":
    unittest.main()
