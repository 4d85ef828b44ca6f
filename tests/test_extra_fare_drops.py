import math
import unittest

from tests.lines import DAYTIME, NIGHT, PLAIN, ask, begin, drive, drops, extra, fare, hire, last, next_drop


class Extra(unittest.TestCase):
    def test_is_put_to_the_extras(self):
        told = ask(begin(PLAIN), hire(0), extra(50), extra(0), extra(9999), fare())
        self.assertEqual(told[2:], [[350], [350], [10349], [300, 10049, 0, 0, 1, 0]])

    def test_past_its_bound(self):
        for n in (10000, 20000):
            told = ask(begin(PLAIN), hire(0), extra(50), drive(130, 0), fare(), drops(), extra(n), fare(), drops())
            self.assertEqual(told[6], [-1])
            self.assertEqual(told[7:], told[4:6])

    def test_changes_nothing_else(self):
        told = ask(begin(PLAIN), hire(0), drive(130, 0), fare(), drops(), next_drop(1, 0), extra(50), fare(), drops(),
                   next_drop(1, 0))
        self.assertEqual(told[3:7], [[320, 0, 1, 1, 2, 0], [1, 120, 1], [10, 1], [370]])
        self.assertEqual(told[7:], [[320, 50, 1, 1, 2, 0], [1, 120, 1], [10, 1]])

    def test_a_new_hire_has_none(self):
        self.assertEqual(last(begin(PLAIN), hire(0), extra(50), begin(PLAIN), hire(0), fare()), [300, 0, 0, 0, 1, 0])


class Fare(unittest.TestCase):
    def test_in_its_order(self):
        told = ask(begin(DAYTIME, NIGHT), hire(79000), extra(77), drive(255, 0), fare())
        # By day at 100, 120 .. 180 s; at 200 s it's night just then, and so on each 10 s.
        self.assertEqual(told[-1], [300 + 5 * 20 + 6 * 40, 77, 11, 1, 2, 1])

    def test_fraction_in_lowest_terms(self):
        for s, above, below in ((1, 1, 120), (2, 1, 60), (45, 3, 8), (80, 2, 3), (119, 119, 120), (120, 0, 1)):
            self.assertEqual(last(begin(PLAIN), hire(0), drive(s, 0), fare())[3:5], [above, below])

    def test_changes_nothing(self):
        told = ask(begin(PLAIN), hire(0), extra(3), drive(130, 0), fare(), fare(), drops(), fare(), drops())
        self.assertEqual(told[4:], [[320, 3, 1, 1, 2, 0]] * 2 + [[1, 120, 1], [320, 3, 1, 1, 2, 0], [1, 120, 1]])


class Drops(unittest.TestCase):
    def test_none_at_first(self):
        self.assertEqual(last(begin(PLAIN), hire(0), drops()), [0])
        self.assertEqual(last(begin(PLAIN), hire(0), drive(119, 0), drops()), [0])

    def test_of_all_ways_since_the_hire_began(self):
        told = ask(begin(PLAIN), hire(70000), drive(130, 0), drops(), drive(7, 70), drive(13, 100), drops())
        # 10 s of 20 are gone; 7 s at 10 m a second: 50 m more, then 20 m, then 80 m at 100 m in 13 s.
        self.assertEqual(told[3], [1, 120, 1])
        self.assertEqual(told[6], [3, 120, 1, 135, 1, 137 * 5 + 52, 5])

    def test_fractions_in_lowest_terms(self):
        told = last(begin(PLAIN), hire(0), drive(77, 5005), drops())
        self.assertEqual(told[0], 41)
        for above, below in zip(told[1::2], told[2::2]):
            self.assertGreater(below, 0)
            self.assertEqual(math.gcd(above, below), 1)
        self.assertEqual(told[1:5], [200, 13, 220, 13])


if __name__ == "__main__":
    unittest.main()
