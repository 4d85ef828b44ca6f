import unittest

import taxirank.meter
from tests.lines import (DAYTIME, NIGHT, PLAIN, QUICK, begin, drive, drops, extra, fare, hire, line_of, next_drop,
                         would)

WHOLE = line_of(begin(DAYTIME, NIGHT), hire(21590), drive(50, 0), extra(7), fare(), drops(), next_drop(3, 44),
                would(100, 1500), drive(90, 1400), drops(), begin(), hire(5))


def changed(*arguments):
    raise AssertionError("what is handed in is changed")


class Kept(list):
    """A list that can't be changed, not for a while either."""
    __setitem__ = __delitem__ = __iadd__ = __imul__ = changed
    append = extend = insert = pop = remove = clear = sort = reverse = changed


class Interface(unittest.TestCase):
    def test_calls_and_answers_to_the_number(self):
        calls = [0, 0, 2, 7, 21600, 300, 1000, 100, 20, 100, 20, 7, 79200, 500, 1000, 50, 40, 100, 10,
                 1, 1, 21590, 0,
                 2, 2, 50, 0, 0,
                 3, 1, 7, 0,
                 4, 0, 0,
                 5, 0, 0,
                 6, 2, 1, 0, 0,
                 7, 2, 60, 0, 0,
                 2, 2, 40, 0, 0,
                 5, 0, 0]
        told = [1, 0,
                1, 500,
                2, 500, 0,
                1, 507,
                6, 500, 7, 0, 3, 5, 0,
                1, 0,
                2, 40, 1,
                1, 547,
                2, 527, 1,
                3, 1, 90, 1]
        self.assertEqual(taxirank.meter.answers(calls), told)

    def test_refusals_are_one_number_each(self):
        calls = [1, 1, 0, 0, 2, 2, 1, 1, 0, 3, 1, 1, 0, 4, 0, 0, 5, 0, 0, 6, 2, 1, 1, 0, 7, 2, 1, 1, 0, 0, 0, 0,
                 0, 0, 3, 0, 2, 5, 6, 10, 1, 2, 3, 4, 5, 6, 7, 8, 9, 10, 1, 1, 100000, 0]
        self.assertEqual(taxirank.meter.answers(calls), [1, -9] + [1, -6] * 6 + [1, -1] * 2 + [1, -9])

    def test_gives_back_a_list_of_whole_numbers(self):
        told = taxirank.meter.answers(WHOLE)
        self.assertIs(type(told), list)
        self.assertEqual({type(number) for number in told}, {int})

    def test_one_call_alone(self):
        self.assertEqual(taxirank.meter.answers([4, 0, 0]), [1, -6])

    def test_sixty_calls(self):
        line = line_of(begin(QUICK), hire(0), *[drive(399, 0)] * 57, drops())
        told = taxirank.meter.answers(line)
        fallen = 57 * 399
        self.assertEqual(told[-2 * fallen - 2:-2 * fallen], [2 * fallen + 1, fallen])
        self.assertEqual(told[-2 * fallen:], [number for fall in range(1, fallen + 1) for number in (fall, 1)])

    def test_what_is_handed_in_stays_as_it_was(self):
        line = list(WHOLE)
        taxirank.meter.answers(line)
        self.assertEqual(line, WHOLE)
        self.assertEqual(taxirank.meter.answers(Kept(WHOLE)), taxirank.meter.answers(WHOLE))

    def test_twice_the_same(self):
        line = list(WHOLE)
        first = taxirank.meter.answers(line)
        self.assertEqual(taxirank.meter.answers(line), first)
        first.clear()
        self.assertNotEqual(taxirank.meter.answers(line), first)

    def test_nothing_is_kept_from_one_time_to_the_next(self):
        taxirank.meter.answers(line_of(begin(PLAIN), hire(0), extra(5)))
        self.assertEqual(taxirank.meter.answers(line_of(hire(0), fare())), [1, -9, 1, -6])


if __name__ == "__main__":
    unittest.main()
