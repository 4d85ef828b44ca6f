"""A hire, and how it goes on, stretch by stretch."""

from taxirank.fraction import ONE, ZERO, divided, is_below, lowest, minus, plus, rounded_down, times
from taxirank.tariff import DAY, DROP_METRES, DROP_PRICE, DROP_SECONDS, HIRING_METRES, HIRING_PRICE, HIRING_SECONDS
from taxirank.tariff import seconds_till_change, which_holds

MOST_STRETCHES = 399


class Hire:
    def __init__(self, tariffs, second):
        self.tariffs = tariffs
        self.second = second
        self.fare = tariffs[which_holds(tariffs, second)][HIRING_PRICE]
        self.extras = 0
        self.gone = ZERO
        self.part = ZERO
        self.falls = []


def copied(hire):
    other = Hire(hire.tariffs, hire.second)
    other.fare = hire.fare
    other.extras = hire.extras
    other.gone = hire.gone
    other.part = hire.part
    other.falls = list(hire.falls)
    return other


def fare_with_extras(hire):
    return hire.fare + hire.extras


def second_of_day(hire):
    return (hire.second + rounded_down(hire.gone)) % DAY


def tariff_place(hire):
    return which_holds(hire.tariffs, second_of_day(hire))


def part_in_a_second(hire, s, m):
    tariff = hire.tariffs[tariff_place(hire)]
    metres = tariff[DROP_METRES]
    seconds = tariff[DROP_SECONDS]
    if len(hire.falls) == 0:
        metres = tariff[HIRING_METRES]
        seconds = tariff[HIRING_SECONDS]
    if m * seconds > s * metres:
        return lowest(m, s * metres)
    return (1, seconds)


def next_change(hire):
    return (rounded_down(hire.gone) + seconds_till_change(hire.tariffs, second_of_day(hire)), 1)


def go_stretch(hire, s, m, stop):
    pace = part_in_a_second(hire, s, m)
    fall = plus(hire.gone, divided(minus(ONE, hire.part), pace))
    if is_below(stop, fall):
        hire.part = plus(hire.part, times(pace, minus(stop, hire.gone)))
        hire.gone = stop
    else:
        hire.gone = fall
        let_drop_fall(hire)


def let_drop_fall(hire):
    # The tariff is asked for anew: another one may begin to hold just where the drop falls.
    hire.fare += hire.tariffs[tariff_place(hire)][DROP_PRICE]
    hire.part = ZERO
    hire.falls.append(hire.gone)


# False: it goes in too many stretches. The hire is left midway then, so hand over a copy.
def drive_way(hire, s, m):
    end = plus(hire.gone, (s, 1))
    stretches = 0
    while is_below(hire.gone, end):
        if stretches == MOST_STRETCHES:
            return False
        stop = next_change(hire)
        if is_below(end, stop):
            stop = end
        go_stretch(hire, s, m, stop)
        stretches += 1
    return True


# Till so many drops more have fallen; None: it goes in too many stretches. There's no way's end here: s and m tell the
# speed alone. The hire stays as it was.
def seconds_till_drop(hire, count, s, m):
    driven = copied(hire)
    wanted = len(hire.falls) + count
    stretches = 0
    while len(driven.falls) < wanted:
        if stretches == MOST_STRETCHES:
            return None
        go_stretch(driven, s, m, next_change(driven))
        stretches += 1
    return minus(driven.gone, hire.gone)
