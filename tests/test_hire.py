import unittest

from tests.lines import (DAYTIME, NIGHT, PLAIN, ask, begin, drive, drops, extra, fare, hire, last, next_drop, pay,
                         reach, would)


class Hire(unittest.TestCase):
    def test_costs_what_the_tariff_says_that_holds_then(self):
        for second, price, which in ((0, 500, 1), (21599, 500, 1), (21600, 300, 0), (50000, 300, 0), (79199, 300, 0),
                                     (79200, 500, 1), (86399, 500, 1)):
            told = ask(begin(DAYTIME, NIGHT), hire(second), fare())
            self.assertEqual(told[1:], [[price], [price, 0, 0, 0, 1, which]], second)

    def test_four_tariffs(self):
        tariffs = [(second, price, 1, 1, 1, 1, 1) for second, price in ((10, 1), (20, 2), (30, 3), (86399, 4))]
        for second, price in ((0, 4), (9, 4), (10, 1), (19, 1), (20, 2), (29, 2), (30, 3), (86398, 3), (86399, 4)):
            told = ask(begin(*tariffs), hire(second), fare())
            self.assertEqual(told[1:], [[price], [price, 0, 0, 0, 1, price - 1]], second)

    def test_one_tariff_holds_ahead_of_its_second_too(self):
        self.assertEqual(last(begin(NIGHT), hire(79199)), [500])
        self.assertEqual(last(begin(NIGHT), hire(0), fare()), [500, 0, 0, 0, 1, 0])

    def test_hiring_may_cost_nothing(self):
        self.assertEqual(last(begin((0, 0, 1, 1, 1, 1, 1)), hire(0)), [0])

    def test_second_at_and_past_its_bound(self):
        self.assertEqual(last(begin(PLAIN), hire(86399)), [300])
        self.assertEqual(last(begin(PLAIN), hire(86400)), [-1])
        self.assertEqual(last(begin(PLAIN), hire(100000)), [-1])

    def test_order_of_refusals(self):
        self.assertEqual(ask(hire(0), hire(86400)), [[-9], [-9]])
        told = ask(begin(PLAIN), hire(0), hire(86400), hire(86399), hire(0))
        self.assertEqual(told[2:], [[-1], [-4], [-4]])

    def test_refused_changes_nothing(self):
        told = ask(begin(DAYTIME, NIGHT), hire(86400), fare(), hire(30000), extra(7), drive(110, 0), fare(), drops(),
                   hire(0), hire(86400), fare(), drops())
        self.assertEqual(told[1:3], [[-1], [-6]])
        self.assertEqual(told[6:8], [[320, 7, 1, 1, 2, 0], [1, 100, 1]])
        self.assertEqual(told[8:10], [[-4], [-1]])
        self.assertEqual(told[10:], told[6:8])

    def test_all_others_are_refused_without_a_hire(self):
        # Wrong numbers too: that there's no hire is asked first.
        others = (drive(1, 1), drive(0, 0), drive(20001, 100001), extra(1), extra(10000), fare(), drops(),
                  next_drop(1, 1), next_drop(0, 0), would(1, 1), would(1, 100001), pay(), reach(0, 1, 1),
                  reach(201, 1, 1), reach(0, 0, 0))
        for other in others:
            self.assertEqual(ask(other), [[-6]])
            self.assertEqual(ask(begin(PLAIN), other), [[0], [-6]])
            self.assertEqual(ask(begin(PLAIN), other, hire(0), fare())[2:], [[300], [300, 0, 0, 0, 1, 0]])


if __name__ == "__main__":
    unittest.main()
