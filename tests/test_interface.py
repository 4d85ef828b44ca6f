import unittest

import taxirank.meter
from tests.lines import (DAYTIME, NIGHT, PLAIN, QUICK, back, begin, drive, drops, extra, fare, hire, join, leave,
                         line_of, next_drop, pay, rank, reach, take, would)

CALLS = (begin(DAYTIME, NIGHT), join(7), join(3), join(99), hire(21590), drive(50, 0), extra(7), fare(), drops(),
         next_drop(3, 44), take(100), would(100, 1500), drive(90, 1400), reach(3, 7, 50), drops(), back(7, 900, 499),
         rank(), leave(3), begin(), take(1000), rank(), pay(), pay(), hire(5), join(100), reach(200, 20000, 1), drops())
WHOLE = line_of(*CALLS)


def changed(*arguments):
    raise AssertionError("what is handed in is changed")


class Kept(list):
    """A list that can't be changed, not for a while either."""
    __setitem__ = __delitem__ = __iadd__ = __imul__ = changed
    append = extend = insert = pop = remove = clear = sort = reverse = changed


class Interface(unittest.TestCase):
    def test_calls_and_answers_to_the_number(self):
        calls = [0, 0, 2, 7, 21600, 300, 1000, 100, 20, 100, 20, 7, 79200, 500, 1000, 50, 40, 100, 10,
                 1, 1, 21590, 0,
                 2, 2, 50, 0, 0,
                 3, 1, 7, 0,
                 4, 0, 0,
                 5, 0, 0,
                 6, 2, 1, 0, 0,
                 7, 2, 60, 0, 0,
                 2, 2, 40, 0, 0,
                 5, 0, 0]
        told = [1, 0,
                1, 500,
                2, 500, 0,
                1, 507,
                6, 500, 7, 0, 3, 5, 0,
                1, 0,
                2, 40, 1,
                1, 547,
                2, 527, 1,
                3, 1, 90, 1]
        self.assertEqual(taxirank.meter.answers(calls), told)

    def test_the_other_calls_to_the_number(self):
        calls = [0, 0, 1, 7, 0, 300, 1000, 120, 20, 100, 20,
                 1, 1, 0, 0,
                 9, 3, 1, 7, 10, 0,
                 9, 3, 0, 7, 10, 0,
                 2, 2, 130, 0, 0,
                 8, 0, 0,
                 10, 1, 7, 0,
                 10, 1, 3, 0,
                 14, 0, 0,
                 11, 1, 1000, 0,
                 14, 0, 0,
                 12, 3, 7, 1901, 0, 0,
                 14, 0, 0,
                 13, 1, 3, 0,
                 14, 0, 0]
        told = [1, 0,
                1, 300,
                2, 200, 1,
                2, 1200, 7,
                2, 320, 1,
                3, 320, 130, 1,
                1, 1,
                1, 2,
                4, 2, 7, 3, 0,
                1, 7,
                4, 1, 3, 1, 7,
                1, 1,
                4, 2, 3, 7, 0,
                1, 1,
                3, 1, 7, 0]
        self.assertEqual(taxirank.meter.answers(calls), told)

    def test_refusals_are_one_number_each(self):
        calls = [1, 1, 0, 0, 2, 2, 1, 1, 0, 3, 1, 1, 0, 4, 0, 0, 5, 0, 0, 6, 2, 1, 1, 0, 7, 2, 1, 1, 0, 0, 0, 0,
                 0, 0, 3, 0, 2, 5, 6, 10, 1, 2, 3, 4, 5, 6, 7, 8, 9, 10, 1, 1, 100000, 0]
        self.assertEqual(taxirank.meter.answers(calls), [1, -9] + [1, -6] * 6 + [1, -1] * 2 + [1, -9])

    def test_refusals_of_the_other_calls_are_one_number_each(self):
        calls = [8, 0, 0, 9, 3, 0, 1, 1, 0, 10, 1, 100, 0, 11, 1, 0, 0, 12, 3, 5, 0, 0, 0, 13, 1, 5, 0]
        self.assertEqual(taxirank.meter.answers(calls), [1, -6, 1, -6, 1, -1, 1, -6, 1, -4, 1, -4])

    def test_gives_back_a_list_of_whole_numbers(self):
        told = taxirank.meter.answers(WHOLE)
        self.assertIs(type(told), list)
        self.assertEqual({type(number) for number in told}, {int})

    def test_one_call_alone(self):
        self.assertEqual(taxirank.meter.answers([4, 0, 0]), [1, -6])
        self.assertEqual(taxirank.meter.answers([14, 0, 0]), [2, 0, 0])

    def test_sixty_calls(self):
        line = line_of(begin(QUICK), hire(0), *[drive(399, 0)] * 57, drops())
        told = taxirank.meter.answers(line)
        fallen = 57 * 399
        self.assertEqual(told[-2 * fallen - 2:-2 * fallen], [2 * fallen + 1, fallen])
        self.assertEqual(told[-2 * fallen:], [number for fall in range(1, fallen + 1) for number in (fall, 1)])

    def test_all_fifteen_are_in_the_whole_line(self):
        self.assertEqual({one[0] for one in CALLS}, set(range(15)))

    def test_sixty_calls_of_the_longest_reach(self):
        tariffs = [(second, 0, 9999 - second, 9999, 1, 9973 - second, 9999) for second in range(4)]
        line = line_of(begin(*tariffs), hire(86399), *[reach(200, 19997, 20011)] * 58)
        told = taxirank.meter.answers(line)
        self.assertEqual(told[4:], told[4:7] * 58)

    def test_what_is_handed_in_stays_as_it_was(self):
        line = list(WHOLE)
        taxirank.meter.answers(line)
        self.assertEqual(line, WHOLE)
        self.assertEqual(taxirank.meter.answers(Kept(WHOLE)), taxirank.meter.answers(WHOLE))

    def test_twice_the_same(self):
        line = list(WHOLE)
        first = taxirank.meter.answers(line)
        self.assertEqual(taxirank.meter.answers(line), first)
        first.clear()
        self.assertNotEqual(taxirank.meter.answers(line), first)

    def test_nothing_is_kept_from_one_time_to_the_next(self):
        taxirank.meter.answers(line_of(begin(PLAIN), join(5), join(6), take(0), hire(0), extra(5)))
        self.assertEqual(taxirank.meter.answers(line_of(hire(0), fare(), rank())), [1, -9, 1, -6, 2, 0, 0])


if __name__ == "__main__":
    unittest.main()
