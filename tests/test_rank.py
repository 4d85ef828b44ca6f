import unittest

from tests.lines import (DAYTIME, NIGHT, PLAIN, ask, back, begin, drive, extra, fare, hire, join, last, leave, pay,
                         rank, take)


class Join(unittest.TestCase):
    def test_behind_all(self):
        told = ask(join(7), join(3), join(5), rank())
        self.assertEqual(told, [[1], [2], [3], [3, 7, 3, 5, 0]])

    def test_cabs_at_and_past_the_bounds(self):
        told = ask(join(0), join(99), join(100), join(200), rank())
        self.assertEqual(told, [[1], [2], [-1], [-1], [2, 0, 99, 0]])

    def test_in_the_rank_already(self):
        told = ask(join(7), join(3), join(7), join(3), rank())
        self.assertEqual(told[2:], [[-4], [-4], [2, 7, 3, 0]])

    def test_away(self):
        told = ask(join(7), join(3), take(0), join(7), rank(), take(0), join(7), join(3), rank())
        self.assertEqual(told[3:], [[-4], [1, 3, 1, 7], [3], [-4], [-4], [0, 2, 7, 3]])

    def test_again_when_it_has_left(self):
        told = ask(join(7), join(3), leave(7), join(7), rank())
        self.assertEqual(told[2:], [[1], [2], [2, 3, 7, 0]])

    def test_those_away_are_not_counted(self):
        self.assertEqual(last(join(7), join(3), take(0), join(5)), [2])

    def test_without_tariffs_or_a_hire(self):
        self.assertEqual(ask(join(1), take(0), back(1, 0, 0), leave(1), rank()), [[1], [1], [0], [0], [0, 0]])


class Take(unittest.TestCase):
    def test_the_first(self):
        told = ask(join(7), join(3), join(5), take(10), rank(), take(20), rank(), take(30), rank())
        self.assertEqual(told[3:], [[7], [2, 3, 5, 1, 7], [3], [1, 5, 2, 7, 3], [5], [0, 3, 7, 3, 5]])

    def test_nobody_is_there(self):
        self.assertEqual(ask(take(0), take(200000), rank()), [[-6], [-6], [0, 0]])
        self.assertEqual(ask(join(7), take(0), take(0), rank())[2:], [[-6], [0, 1, 7]])
        self.assertEqual(ask(join(7), leave(7), take(0), rank())[2:], [[-6], [0, 0]])

    def test_cab_0(self):
        self.assertEqual(ask(join(0), take(0), back(0, 0, 0), rank()), [[1], [0], [0], [1, 0, 0]])

    def test_refused_leaves_those_away_since_when_they_were(self):
        told = ask(join(7), take(100), take(5000), join(3), back(7, 1000, 0), rank())
        self.assertEqual(told[2:], [[-6], [1], [0], [2, 7, 3, 0]])

    def test_time_may_be_any(self):
        told = ask(join(1), join(2), take(200000), take(0), rank(), back(1, 199999, 0), back(2, 0, 0))
        self.assertEqual(told[2:], [[1], [2], [0, 2, 1, 2], [-1], [0]])


class Back(unittest.TestCase):
    def ahead(self, now, price, since=1000):
        """Where a cab comes that was taken at that time, with two others in the rank."""
        told = ask(join(7), join(3), join(5), take(since), back(7, now, price), rank())
        self.assertEqual(told[5], [3, 7, 3, 5, 0] if told[4] == [0] else [3, 3, 5, 7, 0])
        return told[4]

    def test_at_just_900_and_at_901(self):
        self.assertEqual(self.ahead(1899, 0), [0])
        self.assertEqual(self.ahead(1900, 0), [0])
        self.assertEqual(self.ahead(1901, 0), [2])
        self.assertEqual(self.ahead(200000, 0), [2])
        self.assertEqual(self.ahead(900, 0, 0), [0])
        self.assertEqual(self.ahead(901, 0, 0), [2])

    def test_with_a_fare_of_499_and_of_500(self):
        self.assertEqual(self.ahead(1000, 499), [0])
        self.assertEqual(self.ahead(1000, 500), [2])
        self.assertEqual(self.ahead(1000, 20000), [2])

    def test_both_are_asked_for(self):
        self.assertEqual(self.ahead(1900, 499), [0])
        self.assertEqual(self.ahead(1900, 500), [2])
        self.assertEqual(self.ahead(1901, 499), [2])
        self.assertEqual(self.ahead(1901, 500), [2])

    def test_at_the_very_time_and_one_before_it(self):
        self.assertEqual(self.ahead(1000, 0), [0])
        for price in (0, 500):
            told = ask(join(7), join(3), take(1000), rank(), back(7, 999, price), back(7, 0, price), rank(),
                       back(7, 1900, 0))
            self.assertEqual(told[4:6], [[-1], [-1]])
            self.assertEqual(told[6], told[3])
            self.assertEqual(told[7], [0])

    def test_not_away(self):
        told = ask(join(7), join(3), take(1000), back(3, 1000, 0), back(5, 1000, 0), back(100, 1000, 0),
                   back(200, 1000, 0), rank())
        self.assertEqual(told[3:], [[-4]] * 4 + [[1, 3, 1, 7]])
        self.assertEqual(ask(back(0, 0, 0), rank()), [[-4], [0, 0]])

    def test_no_longer_away(self):
        # That it isn't away is asked first, whatever the time.
        told = ask(join(7), take(1000), back(7, 1500, 0), back(7, 1500, 0), back(7, 0, 0), rank())
        self.assertEqual(told[2:], [[0], [-4], [-4], [1, 7, 0]])

    def test_it_has_left(self):
        told = ask(join(7), take(1000), back(7, 1500, 0), leave(7), back(7, 1500, 0), rank())
        self.assertEqual(told[3:], [[0], [-4], [0, 0]])

    def test_nobody_else_is_there(self):
        self.assertEqual(ask(join(7), take(0), back(7, 901, 500), rank())[2:], [[0], [1, 7, 0]])

    def test_taken_again(self):
        # It's away since it was taken last.
        told = ask(join(7), take(1000), back(7, 3000, 0), take(5000), back(7, 4999, 0), join(3), back(7, 5900, 499),
                   take(9000), back(7, 9901, 0), rank())
        self.assertEqual(told[2:], [[0], [7], [-1], [1], [0], [7], [1], [2, 3, 7, 0]])

    def test_each_is_away_since_its_own_time(self):
        told = ask(join(1), join(2), join(3), take(1000), take(2000), back(1, 1999, 0), back(2, 1999, 0),
                   back(2, 2900, 0), rank())
        self.assertEqual(told[5:], [[1], [-1], [0], [3, 2, 3, 1, 0]])

    def test_the_last_that_comes_back_soon_is_the_first(self):
        told = ask(join(1), join(2), join(3), take(0), take(0), back(1, 10, 0), back(2, 20, 0), rank(), take(30))
        self.assertEqual(told[5:], [[0], [0], [3, 2, 1, 3, 0], [2]])

    def test_the_fare_is_the_one_handed_over(self):
        # The meter's fare has nothing to do with it.
        told = ask(begin(PLAIN), join(7), join(3), take(0), hire(0), extra(9999), back(7, 0, 499), fare())
        self.assertEqual(told[6:], [[0], [300, 9999, 0, 0, 1, 0]])


class Leave(unittest.TestCase):
    def test_out_of_the_rank(self):
        told = ask(join(7), join(3), join(5), join(9), leave(3), rank(), leave(7), rank(), leave(9), rank(), leave(5),
                   rank())
        self.assertEqual(told[4:], [[3], [3, 7, 5, 9, 0], [2], [2, 5, 9, 0], [1], [1, 5, 0], [0], [0, 0]])

    def test_not_in_it(self):
        told = ask(leave(0), join(7), leave(5), leave(100), leave(200), leave(7), leave(7), rank())
        self.assertEqual(told, [[-4], [1], [-4], [-4], [-4], [0], [-4], [0, 0]])

    def test_away(self):
        told = ask(join(7), join(3), take(1000), leave(7), rank(), join(7), back(7, 1900, 0))
        self.assertEqual(told[3:], [[-4], [1, 3, 1, 7], [-4], [0]])

    def test_the_next_one_is_first_then(self):
        self.assertEqual(last(join(7), join(3), leave(7), take(0)), [3])


class Rank(unittest.TestCase):
    def test_nobody(self):
        self.assertEqual(ask(rank()), [[0, 0]])
        self.assertEqual(ask(begin(PLAIN), hire(0), rank())[2], [0, 0])

    def test_those_away_as_they_were_taken(self):
        # By when take was called, not by the times or by their numbers.
        told = ask(join(9), join(1), join(5), take(300), take(100), take(200), rank())
        self.assertEqual(told[6], [0, 3, 9, 1, 5])

    def test_taken_again_it_stands_behind_the_others_away(self):
        told = ask(join(9), join(1), join(5), take(0), take(0), back(9, 0, 0), rank(), take(0), rank(), take(0),
                   back(1, 0, 0), rank())
        self.assertEqual(told[6], [2, 9, 5, 1, 1])
        self.assertEqual(told[8], [1, 5, 2, 1, 9])
        self.assertEqual(told[11], [1, 1, 2, 9, 5])

    def test_changes_nothing(self):
        told = ask(join(9), join(1), take(0), rank(), rank(), join(5), rank(), take(0), rank())
        self.assertEqual(told[3:], [[1, 1, 1, 9], [1, 1, 1, 9], [2], [2, 1, 5, 1, 9], [1], [1, 5, 2, 9, 1]])

    def test_a_long_line(self):
        told = ask(*[join(cab) for cab in range(99, 70, -1)], *[take(now) for now in range(14)],
                   *[back(99 - turn, 900 + turn, 499) for turn in range(7)],
                   *[back(92 - turn, 908 + turn, 0) for turn in range(6)], leave(80), rank())
        self.assertEqual(told[:29], [[count] for count in range(1, 30)])
        self.assertEqual(told[29:43], [[cab] for cab in range(99, 85, -1)])
        # Seven back in time, each ahead of all; six a second too late, each behind all; one stays away.
        self.assertEqual(told[43:50], [[0]] * 7)
        self.assertEqual(told[50:56], [[count] for count in range(22, 28)])
        self.assertEqual(told[56], [27])
        self.assertEqual(told[57], [27, *range(93, 100), *range(85, 80, -1), *range(79, 70, -1), *range(92, 86, -1),
                                    1, 86])


class BesideTheMeter(unittest.TestCase):
    def test_begin_leaves_nobody_there(self):
        told = ask(join(7), join(3), take(100), begin(PLAIN), rank(), back(7, 100, 0), leave(3), take(0), join(3),
                   join(7), rank())
        self.assertEqual(told[3:], [[0], [0, 0], [-4], [-4], [-6], [1], [2], [2, 3, 7, 0]])

    def test_begin_that_is_refused_leaves_all_as_they_were(self):
        for wrong in (begin(), begin(NIGHT, DAYTIME), begin(PLAIN[:6])):
            told = ask(begin(PLAIN), join(7), join(3), join(5), take(100), wrong, rank(), join(7), back(7, 99, 0),
                       back(7, 1000, 0), rank())
            self.assertEqual(told[5:], [[-1], [2, 3, 5, 1, 7], [-4], [-1], [0], [3, 7, 3, 5, 0]])

    def test_a_hire_changes_nothing_here(self):
        told = ask(begin(PLAIN), join(7), join(3), take(100), hire(0), drive(130, 0), extra(5), rank(), pay(), hire(5),
                   rank())
        self.assertEqual([told[7], told[10]], [[1, 3, 1, 7]] * 2)

    def test_nothing_here_changes_a_hire(self):
        start = (begin(PLAIN), hire(0), drive(130, 0), extra(5))
        told = ask(*start, fare(), join(7), join(7), take(9), take(9), back(7, 8, 0), back(7, 9, 0), leave(7),
                   leave(7), rank(), fare(), pay())
        self.assertEqual(told[4], told[14])
        self.assertEqual(told[15], [325, 130, 1])


if __name__ == "__main__":
    unittest.main()
