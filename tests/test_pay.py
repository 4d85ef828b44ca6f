import unittest

from tests.lines import (DAYTIME, NIGHT, PLAIN, ask, begin, drive, drops, extra, fare, hire, join, last, next_drop,
                         pay, rank, reach, take, would)

OF_THE_HIRE = (drive(1, 1), extra(1), fare(), drops(), next_drop(1, 1), would(1, 1), pay(), reach(0, 1, 1))


class Pay(unittest.TestCase):
    def test_the_fare_with_extras_and_the_seconds_gone(self):
        self.assertEqual(last(begin(PLAIN), hire(0), extra(9), drive(170, 0), pay()), [369, 170, 1])
        self.assertEqual(last(begin(PLAIN), hire(50000), drive(100, 1500), extra(5), extra(6), pay()), [431, 100, 1])

    def test_just_behind_hire(self):
        self.assertEqual(last(begin(PLAIN), hire(70000), pay()), [300, 0, 1])
        self.assertEqual(last(begin(PLAIN), hire(0), extra(7), pay()), [307, 0, 1])
        self.assertEqual(last(begin((0, 0, 1, 1, 1, 1, 1)), hire(0), pay()), [0, 0, 1])

    def test_of_several_ways(self):
        # Drops fell at fractions of a second, but each way has whole seconds.
        self.assertEqual(last(begin(PLAIN), hire(0), drive(77, 5005), drive(13, 100), pay()), [300 + 42 * 20, 90, 1])

    def test_ways_that_are_refused_or_not_gone_do_not_count(self):
        told = ask(begin(PLAIN), hire(0), drive(60, 0), drive(20001, 0), would(500, 0), next_drop(1, 0),
                   reach(5, 1, 1), pay())
        self.assertEqual(told[3], [-1])
        self.assertEqual(told[7], [300, 60, 1])

    def test_for_more_than_a_day(self):
        wide = (0, 300, 9999, 9999, 20, 9999, 9999)
        self.assertEqual(last(begin(wide), hire(80000), *[drive(20000, 0)] * 5, pay()), [500, 100000, 1])

    def test_none_to_pay(self):
        self.assertEqual(ask(pay()), [[-6]])
        self.assertEqual(ask(begin(PLAIN), pay(), hire(0), fare()), [[0], [-6], [300], [300, 0, 0, 0, 1, 0]])
        self.assertEqual(ask(begin(PLAIN), hire(0), pay(), pay())[2:], [[300, 0, 1], [-6]])
        self.assertEqual(ask(begin(PLAIN), hire(0), begin(PLAIN), pay())[2:], [[0], [-6]])


class Over(unittest.TestCase):
    def test_each_call_of_the_hire_is_refused(self):
        for one in OF_THE_HIRE:
            self.assertEqual(last(begin(PLAIN), hire(0), drive(130, 0), pay(), one), [-6])
        told = ask(begin(PLAIN), hire(0), drive(130, 0), pay(), *OF_THE_HIRE)
        self.assertEqual(told[4:], [[-6]] * len(OF_THE_HIRE))

    def test_a_new_hire_begins_anew(self):
        told = ask(begin(PLAIN), hire(0), extra(9), drive(170, 0), pay(), hire(500), fare(), drops(), pay())
        self.assertEqual(told[5:], [[300], [300, 0, 0, 0, 1, 0], [0], [300, 0, 1]])

    def test_hiring_covers_its_seconds_again(self):
        told = ask(begin(PLAIN), hire(0), drive(170, 0), pay(), hire(500), next_drop(1, 0), drive(119, 0),
                   drive(1, 0), drops())
        self.assertEqual(told[5:], [[120, 1], [300, 0], [320, 1], [1, 120, 1]])

    def test_the_tariffs_stay(self):
        told = ask(begin(DAYTIME, NIGHT), hire(30000), pay(), hire(86400), hire(80000), fare(), hire(30000))
        self.assertEqual(told[2:], [[300, 0, 1], [-1], [500], [500, 0, 0, 0, 1, 1], [-4]])

    def test_the_new_hire_begins_at_its_own_second(self):
        told = ask(begin(DAYTIME, NIGHT), hire(21590), drive(100, 0), pay(), hire(21590), next_drop(1, 0))
        self.assertEqual(told[4:], [[500], [90, 1]])

    def test_the_rank_stays(self):
        told = ask(begin(PLAIN), join(5), join(6), take(100), hire(0), rank(), pay(), rank(), pay(), rank())
        self.assertEqual(told[5:], [[1, 6, 1, 5], [300, 0, 1], [1, 6, 1, 5], [-6], [1, 6, 1, 5]])


if __name__ == "__main__":
    unittest.main()
