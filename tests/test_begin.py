import unittest

from tests.lines import DAYTIME, NIGHT, PLAIN, ask, begin, drive, drops, extra, fare, hire, last

GOOD = (100, 200, 300, 400, 500, 600, 700)
LEAST = (0, 0, 1, 1, 1, 1, 1)
MOST = (86399, 9999, 9999, 9999, 9999, 9999, 9999)


def with_number(place, number):
    return GOOD[:place] + (number,) + GOOD[place + 1:]


def from_second(second):
    return with_number(0, second)


class Begin(unittest.TestCase):
    def test_one_to_four_tariffs(self):
        for count in range(1, 5):
            tariffs = [from_second(1000 * place) for place in range(count)]
            self.assertEqual(ask(begin(*tariffs)), [[0]])

    def test_too_few_and_too_many(self):
        for count in (0, 5, 6):
            tariffs = [from_second(1000 * place) for place in range(count)]
            self.assertEqual(ask(begin(*tariffs)), [[-1]])

    def test_other_lengths(self):
        for length in (0, 1, 6, 8, 10):
            wrong = (GOOD + (1, 1, 1))[:length]
            self.assertEqual(ask(begin(wrong)), [[-1]])
            self.assertEqual(ask(begin(from_second(5), wrong)), [[-1]])
            self.assertEqual(ask(begin(wrong, from_second(200))), [[-1]])

    def test_numbers_at_their_bounds(self):
        for place in range(7):
            self.assertEqual(ask(begin(with_number(place, LEAST[place]))), [[0]], place)
            self.assertEqual(ask(begin(with_number(place, MOST[place]))), [[0]], place)
        self.assertEqual(ask(begin(LEAST, MOST)), [[0]])

    def test_numbers_past_their_bounds(self):
        for place in range(7):
            self.assertEqual(ask(begin(with_number(place, MOST[place] + 1))), [[-1]], place)
            self.assertEqual(ask(begin(with_number(place, 100000))), [[-1]], place)
        for place in range(2, 7):
            self.assertEqual(ask(begin(with_number(place, 0))), [[-1]], place)

    def test_any_tariff_may_be_the_wrong_one(self):
        for wrong in range(4):
            tariffs = [from_second(1000 * place) for place in range(4)]
            tariffs[wrong] = tariffs[wrong][:6] + (0,)
            self.assertEqual(ask(begin(*tariffs)), [[-1]], wrong)

    def test_seconds_rise(self):
        self.assertEqual(ask(begin(from_second(5), from_second(6))), [[0]])
        self.assertEqual(ask(begin(from_second(5), from_second(5))), [[-1]])
        self.assertEqual(ask(begin(from_second(6), from_second(5))), [[-1]])
        for seconds in ((1, 2, 2), (1, 3, 2), (2, 1, 3), (1, 2, 3, 3), (4, 1, 2, 3), (1, 2, 4, 3)):
            self.assertEqual(ask(begin(*[from_second(second) for second in seconds])), [[-1]], seconds)

    def test_nothing_else_stays(self):
        told = ask(begin(PLAIN), hire(0), extra(7), drive(200, 0), begin(NIGHT), fare(), drops(), hire(0), fare(),
                   drops())
        self.assertEqual(told[4:], [[0], [-6], [-6], [500], [500, 0, 0, 0, 1, 0], [0]])

    def test_the_new_tariffs_are_all_there_is(self):
        told = ask(begin(DAYTIME, NIGHT), begin(PLAIN), hire(80000), fare())
        self.assertEqual(told[2:], [[300], [300, 0, 0, 0, 1, 0]])

    def test_refused_changes_nothing(self):
        wrong = begin(NIGHT, DAYTIME)
        told = ask(begin(DAYTIME, NIGHT), wrong, hire(30000), extra(7), drive(110, 0), fare(), drops(), wrong, begin(),
                   fare(), drops(), hire(0))
        self.assertEqual(told[1], [-1])
        self.assertEqual(told[2], [300])
        self.assertEqual(told[5:7], [[320, 7, 1, 1, 2, 0], [1, 100, 1]])
        self.assertEqual(told[7:9], [[-1], [-1]])
        self.assertEqual(told[9:11], told[5:7])
        self.assertEqual(told[11], [-4])

    def test_refused_at_first_leaves_no_tariffs(self):
        self.assertEqual(last(begin(GOOD, GOOD), hire(0)), [-9])


if __name__ == "__main__":
    unittest.main()
