"""A model of the program, which finds the same another way.

It doesn't go stretch by stretch: it cuts a way at the whole seconds where a tariff begins to hold, tells the drops of
each piece at once, and counts the different times at which something ends.
"""

from fractions import Fraction

LONGEST_TILL_A_DROP = 10000


def fits(tariff):
    return (len(tariff) == 7 and tariff[0] <= 86399 and tariff[1] <= 9999
            and all(1 <= number <= 9999 for number in tariff[2:]))


class RankModel:
    """Keeps no order: each cab has the place that it was given, the higher the farther behind."""

    def __init__(self):
        self.places = {}
        self.gone_away = {}
        self.turn = 0

    def new_turn(self):
        self.turn += 1
        return self.turn

    def in_rank(self):
        return sorted(self.places, key=self.places.get)

    def join(self, cab):
        if cab > 99:
            return [-1]
        if {cab} & (self.places.keys() | self.gone_away.keys()):
            return [-4]
        self.places[cab] = self.new_turn()
        return [len(self.places)]

    def take(self, now):
        if not self.places:
            return [-6]
        cab = min(self.places, key=self.places.get)
        del self.places[cab]
        self.gone_away[cab] = (self.new_turn(), now)
        return [cab]

    def back(self, cab, now, price):
        if cab not in self.gone_away:
            return [-4]
        since = self.gone_away[cab][1]
        if now < since:
            return [-1]
        del self.gone_away[cab]
        self.places[cab] = -self.new_turn() if now < since + 901 and price <= 499 else self.new_turn()
        return [self.in_rank().index(cab)]

    def leave(self, cab):
        if cab not in self.places:
            return [-4]
        del self.places[cab]
        return [len(self.places)]

    def rank(self):
        away = sorted(self.gone_away, key=self.gone_away.get)
        return [len(self.places), *self.in_rank(), len(away), *away]


class Model(RankModel):
    def __init__(self):
        RankModel.__init__(self)
        self.tariffs = None
        self.second = None

    def begin(self, *tariffs):
        seconds = [tariff[0] for tariff in tariffs if tariff]
        if not 1 <= len(tariffs) <= 4 or not all(map(fits, tariffs)) or seconds != sorted(set(seconds)):
            return [-1]
        self.__init__()
        self.tariffs = tariffs
        return [0]

    def which(self, gone):
        now = (self.second + int(gone)) % 86400
        return max(range(len(self.tariffs)), key=lambda k: (self.tariffs[k][0] <= now, self.tariffs[k][0]))

    def hire(self, second):
        if self.tariffs is None:
            return [-9]
        if second > 86399:
            return [-1]
        if self.second is not None:
            return [-4]
        self.second, self.extras, self.gone, self.part, self.times = second, 0, 0, Fraction(0), []
        self.price = self.tariffs[self.which(0)][1]
        return [self.price]

    def way(self, s, m, seconds):
        """The times of the drops, what's gone of the next one at the end, and how many stretches."""
        starts = [tariff[0] for tariff in self.tariffs]
        end = self.gone + seconds
        changes = sorted(t for start in starts
                         for t in range((start - self.second - self.gone - 1) % 86400 + self.gone + 1, end, 86400))
        times, part = [], self.part
        for start, stop in zip([self.gone] + changes, changes + [end]):
            tariff = self.tariffs[self.which(start)]
            paces = [max(Fraction(m, s * tariff[k]), Fraction(1, tariff[k + 1])) for k in (2, 5)]
            left = Fraction(stop - start)
            if not self.times and not times:
                if part + left * paces[0] < 1:
                    part += left * paces[0]
                    continue
                left -= (1 - part) / paces[0]
                times.append(stop - left)
                part = Fraction(0)
            amount = part + left * paces[1]
            # More than 400 needn't be told: it's refused then.
            times += [stop - (amount - k) / paces[1] for k in range(1, min(int(amount), 400) + 1)]
            part = amount % 1
        return times, part, len(set(times) | set(changes) | {end})

    def prices(self, times):
        return sum(self.tariffs[self.which(time)][4] for time in times)

    def refusal(self, s, m):
        if self.second is None:
            return [-6]
        if not 1 <= s <= 20000 or m > 100000:
            return [-1]
        return [-5] if self.way(s, m, s)[2] > 399 else None

    def would(self, s, m):
        return self.refusal(s, m) or [self.price + self.extras + self.prices(self.way(s, m, s)[0])]

    def drive(self, s, m):
        told = self.would(s, m)
        if told[0] < 0:
            return told
        times, self.part, stretches = self.way(s, m, s)
        self.price += self.prices(times)
        self.times += times
        self.gone += s
        return told + [len(times)]

    def till_drop(self, n, s, m):
        """In how many seconds the drop behind the next n falls."""
        seconds = 1
        while len(self.way(s, m, seconds)[0]) <= n:
            seconds = min(2 * seconds, LONGEST_TILL_A_DROP * (n + 1))
        return Fraction(self.way(s, m, seconds)[0][n] - self.gone)

    # -5 is none of these two: 201 drops fall within 24 days, in which 4 tariffs begin to hold at most 96 times.
    def next_drop(self, s, m):
        refusal = self.refusal(s, m)
        if refusal in ([-6], [-1]):
            return refusal
        return list(self.till_drop(0, s, m).as_integer_ratio())

    def reach(self, n, s, m):
        refusal = self.refusal(s, m)
        if refusal in ([-6], [-1]):
            return refusal
        if n > 200:
            return [-1]
        return list((self.till_drop(n, s, m) * Fraction(m, s)).as_integer_ratio())

    def pay(self):
        if self.second is None:
            return [-6]
        self.second = None
        return [self.price + self.extras, self.gone, 1]

    def extra(self, n):
        if self.second is None:
            return [-6]
        if n > 9999:
            return [-1]
        self.extras += n
        return [self.price + self.extras]

    def fare(self):
        if self.second is None:
            return [-6]
        return [self.price, self.extras, len(self.times), *self.part.as_integer_ratio(), self.which(self.gone)]

    def drops(self):
        if self.second is None:
            return [-6]
        return [len(self.times)] + [number for time in self.times for number in time.as_integer_ratio()]
