"""Lines made from fixed seeds, asked of the program and of a model that finds the same another way.

The model doesn't go stretch by stretch: it cuts a way at the whole seconds where a tariff begins to hold, tells the
drops of each piece at once, and counts the different times at which something ends.
"""

import random
import unittest
from fractions import Fraction

from tests.lines import ask, begin, drive, drops, extra, fare, hire, next_drop, would

LONGEST_TILL_A_DROP = 10000


def fits(tariff):
    return (len(tariff) == 7 and tariff[0] <= 86399 and tariff[1] <= 9999
            and all(1 <= number <= 9999 for number in tariff[2:]))


class Model:
    def __init__(self):
        self.tariffs = None
        self.second = None

    def begin(self, *tariffs):
        seconds = [tariff[0] for tariff in tariffs if tariff]
        if not 1 <= len(tariffs) <= 4 or not all(map(fits, tariffs)) or seconds != sorted(set(seconds)):
            return [-1]
        self.tariffs = tariffs
        self.second = None
        return [0]

    def which(self, gone):
        now = (self.second + int(gone)) % 86400
        return max(range(len(self.tariffs)), key=lambda k: (self.tariffs[k][0] <= now, self.tariffs[k][0]))

    def hire(self, second):
        if self.tariffs is None:
            return [-9]
        if second > 86399:
            return [-1]
        if self.second is not None:
            return [-4]
        self.second, self.extras, self.gone, self.part, self.times = second, 0, 0, Fraction(0), []
        self.price = self.tariffs[self.which(0)][1]
        return [self.price]

    def way(self, s, m, seconds):
        """The times of the drops, what's gone of the next one at the end, and how many stretches."""
        starts = [tariff[0] for tariff in self.tariffs]
        end = self.gone + seconds
        changes = [t for t in range(self.gone + 1, end) if (self.second + t) % 86400 in starts]
        times, part = [], self.part
        for start, stop in zip([self.gone] + changes, changes + [end]):
            tariff = self.tariffs[self.which(start)]
            paces = [max(Fraction(m, s * tariff[k]), Fraction(1, tariff[k + 1])) for k in (2, 5)]
            left = Fraction(stop - start)
            if not self.times and not times:
                if part + left * paces[0] < 1:
                    part += left * paces[0]
                    continue
                left -= (1 - part) / paces[0]
                times.append(stop - left)
                part = Fraction(0)
            amount = part + left * paces[1]
            # More than 400 needn't be told: it's refused then.
            times += [stop - (amount - k) / paces[1] for k in range(1, min(int(amount), 400) + 1)]
            part = amount % 1
        return times, part, len(set(times) | set(changes) | {end})

    def prices(self, times):
        return sum(self.tariffs[self.which(time)][4] for time in times)

    def refusal(self, s, m):
        if self.second is None:
            return [-6]
        if not 1 <= s <= 20000 or m > 100000:
            return [-1]
        return [-5] if self.way(s, m, s)[2] > 399 else None

    def would(self, s, m):
        return self.refusal(s, m) or [self.price + self.extras + self.prices(self.way(s, m, s)[0])]

    def drive(self, s, m):
        told = self.would(s, m)
        if told[0] < 0:
            return told
        times, self.part, stretches = self.way(s, m, s)
        self.price += self.prices(times)
        self.times += times
        self.gone += s
        return told + [len(times)]

    def next_drop(self, s, m):
        refusal = self.refusal(s, m)
        if refusal in ([-6], [-1]):
            return refusal
        seconds = 1
        while not self.way(s, m, seconds)[0]:
            seconds = min(2 * seconds, LONGEST_TILL_A_DROP)
        return list((self.way(s, m, seconds)[0][0] - self.gone).as_integer_ratio())

    def extra(self, n):
        if self.second is None:
            return [-6]
        if n > 9999:
            return [-1]
        self.extras += n
        return [self.price + self.extras]

    def fare(self):
        if self.second is None:
            return [-6]
        return [self.price, self.extras, len(self.times), *self.part.as_integer_ratio(), self.which(self.gone)]

    def drops(self):
        if self.second is None:
            return [-6]
        return [len(self.times)] + [number for time in self.times for number in time.as_integer_ratio()]


BUILDERS = {"begin": begin, "hire": hire, "drive": drive, "extra": extra, "fare": fare, "drops": drops,
            "next_drop": next_drop, "would": would}


def some_tariffs(chance, near):
    most = chance.choice((3, 12, 100, 9999))
    seconds = sorted(chance.sample(range(near, near + chance.choice((8, 60, 4000))), chance.randint(1, 4)))
    return [(second, chance.randint(0, 99), *[chance.randint(1, most) for place in range(5)])
            for second in sorted(second % 86400 for second in seconds)]


def some_wrong_tariffs(chance):
    tariffs = [[chance.choice((0, 1, 9999, 10000)) for place in range(chance.choice((7, 7, 7, 6, 8)))]
               for count in range(chance.randint(0, 6))]
    for place, tariff in enumerate(tariffs):
        tariff[0] = chance.choice((place, 5, 86399, 86400))
    return tariffs


def some_way(chance):
    s = chance.choice((1, 2, 7, 30, 60, 200, 399, 3000, 20000))
    m = chance.choice((0, s, 2 * s, 5 * s // 2, 15 * s, chance.randint(0, 100000)))
    if chance.random() < 0.03:
        s = chance.choice((0, 20001))
    if chance.random() < 0.03:
        m = 100001
    return (s, m)


def some_call(chance, near):
    name = chance.choice(("drive",) * 6 + ("extra", "fare", "drops", "next_drop", "next_drop", "would", "would",
                                           "hire", "wrong"))
    if name in ("drive", "next_drop", "would"):
        return (name, *some_way(chance))
    if name == "extra":
        return (name, chance.choice((0, 5, 9999, 10000)))
    if name == "hire":
        return (name, chance.choice((near % 86400, 86399, 86400)))
    if name == "wrong":
        return ("begin", *some_wrong_tariffs(chance))
    return (name,)


def some_line(seed):
    chance = random.Random(seed)
    near = chance.choice((0, 500, 86390, 82500, 43200))
    line = [("begin", *some_tariffs(chance, near)), ("hire", (near + chance.randint(-30, 30)) % 86400)]
    line += [some_call(chance, near) for count in range(chance.randint(5, 30))]
    return line + [("fare",), ("drops",)]


class AgainstModel(unittest.TestCase):
    def test_lines(self):
        for seed in range(400):
            line = some_line(seed)
            told = ask(*[BUILDERS[name](*given) for name, *given in line])
            model = Model()
            for (name, *given), answer in zip(line, told):
                self.assertEqual(answer, getattr(model, name)(*given), (seed, name, given))


if __name__ == "__main__":
    unittest.main()
