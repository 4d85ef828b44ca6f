"""Lines made from fixed seeds, asked of the program and of a model."""

import random
import unittest

from tests.lines import (ask, back, begin, drive, drops, extra, fare, hire, join, leave, next_drop, pay, rank, reach,
                         take, would)
from tests.model import Model

BUILDERS = {"begin": begin, "hire": hire, "drive": drive, "extra": extra, "fare": fare, "drops": drops,
            "next_drop": next_drop, "would": would, "pay": pay, "reach": reach, "join": join, "take": take,
            "back": back, "leave": leave, "rank": rank}


def some_tariffs(chance, near):
    most = chance.choice((3, 12, 100, 9999))
    seconds = sorted(chance.sample(range(near, near + chance.choice((8, 60, 4000))), chance.randint(1, 4)))
    return [(second, chance.randint(0, 99), *[chance.randint(1, most) for place in range(5)])
            for second in sorted(second % 86400 for second in seconds)]


def some_wrong_tariffs(chance):
    tariffs = [[chance.choice((0, 1, 9999, 10000)) for place in range(chance.choice((7, 7, 7, 6, 8)))]
               for count in range(chance.randint(0, 6))]
    for place, tariff in enumerate(tariffs):
        tariff[0] = chance.choice((place, 5, 86399, 86400))
    return tariffs


def some_way(chance):
    s = chance.choice((1, 2, 7, 30, 60, 200, 399, 3000, 20000))
    m = chance.choice((0, s, 2 * s, 5 * s // 2, 15 * s, chance.randint(0, 100000)))
    if chance.random() < 0.03:
        s = chance.choice((0, 20001))
    if chance.random() < 0.03:
        m = 100001
    return (s, m)


def some_hire_call(chance, near):
    name = chance.choice(("drive",) * 6 + ("extra", "fare", "drops", "next_drop", "next_drop", "would", "would",
                                           "reach", "reach", "hire", "wrong"))
    if name in ("drive", "next_drop", "would"):
        return (name, *some_way(chance))
    if name == "reach":
        return (name, chance.choice((0, 1, 2, 7, 40, 199, 200, 200, 201)), *some_way(chance))
    if name == "extra":
        return (name, chance.choice((0, 5, 9999, 10000)))
    if name == "hire":
        return (name, chance.choice((near % 86400, 86399, 86400)))
    if name == "wrong":
        return ("begin", *some_wrong_tariffs(chance))
    return (name,)


def some_rank_call(chance):
    name = chance.choice(("join",) * 4 + ("take",) * 3 + ("back",) * 3 + ("leave", "rank"))
    # Few cabs, so that the same ones come again and again.
    cab = chance.choice((0, 1, 2, 3, 4, 5, 6, 98, 99, 100))
    now = 900 * chance.randint(0, 3) + chance.choice((0, 0, 1))
    if name in ("join", "leave"):
        return (name, cab)
    if name == "take":
        return (name, now)
    if name == "back":
        return (name, cab, now, chance.choice((0, 499, 499, 500)))
    return (name,)


def some_hire(chance, near):
    return ("hire", (near + chance.randint(-30, 30)) % 86400)


def some_line(seed):
    """The meter's calls alone, for one hire."""
    chance = random.Random(seed)
    near = chance.choice((0, 500, 86390, 82500, 43200))
    line = [("begin", *some_tariffs(chance, near)), some_hire(chance, near)]
    line += [some_hire_call(chance, near) for count in range(chance.randint(5, 30))]
    return line + [("fare",), ("drops",)]


def some_rank_line(seed):
    """The rank's calls alone, and what there is told every now and then."""
    chance = random.Random(seed)
    line = []
    while len(line) < 60:
        line.append(("rank",) if len(line) % 6 == 5 else some_rank_call(chance))
    return line


def some_mixed_line(seed):
    """All fifteen calls, several hires, and now and then a begin that isn't refused."""
    chance = random.Random(seed)
    near = chance.choice((0, 500, 86390, 82500, 43200))
    line = [("join", chance.randint(0, 9)), ("begin", *some_tariffs(chance, near)), some_hire(chance, near)]
    while len(line) < 57:
        draw = chance.random()
        if draw < 0.02:
            line.append(("begin", *some_tariffs(chance, near)))
        elif draw < 0.1:
            line += [("pay",), some_hire(chance, near)][:57 - len(line)]
        elif draw < 0.6:
            line.append(some_rank_call(chance))
        else:
            line.append(some_hire_call(chance, near))
    return line + [("rank",), ("fare",), ("drops",)]


class AgainstModel(unittest.TestCase):
    def same(self, seed, line):
        told = ask(*[BUILDERS[name](*given) for name, *given in line])
        model = Model()
        for place, ((name, *given), answer) in enumerate(zip(line, told)):
            self.assertEqual(answer, getattr(model, name)(*given), (seed, place, name, given))
        return told

    def test_lines_of_the_meter(self):
        for seed in range(400):
            self.same(seed, some_line(seed))

    def test_lines_of_the_rank(self):
        for seed in range(400):
            self.same(seed, some_rank_line(seed))

    def test_mixed_lines(self):
        met = set()
        for seed in range(250):
            line = some_mixed_line(seed)
            self.assertEqual(len(line), 60)
            for (name, *given), answer in zip(line, self.same(seed, line)):
                met.add((name, min(answer[0], 0)))
        # Each call was answered, and each refusal met but those that no call can bring about.
        self.assertEqual({name for name, first in met if first == 0}, set(BUILDERS))
        for name, refusals in (("begin", {-1}), ("drive", {-1, -5, -6}), ("pay", {-6}), ("reach", {-1, -6}),
                               ("join", {-1, -4}), ("take", {-6}), ("back", {-4, -1}), ("leave", {-4}),
                               ("rank", set())):
            self.assertEqual({first for one, first in met if one == name} - {0}, refusals, name)


if __name__ == "__main__":
    unittest.main()
