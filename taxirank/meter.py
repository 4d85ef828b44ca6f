"""The meter and the rank: answers the calls of one line, each by its number."""

from taxirank.fraction import lowest, times
from taxirank.hire import Hire, copied, drive_way, fare_with_extras, seconds_till_drop, tariff_place
from taxirank.rank import MOST_CAB, Rank, bring_back, is_known, take_first
from taxirank.reading import read_calls
from taxirank.tariff import DAY, are_tariffs

FINE = 0
WRONG = -1
HAS_BEGUN = -4
IS_THERE = -4
NOT_THERE = -4
TOO_LONG = -5
NO_HIRE = -6
NOBODY = -6
NO_TARIFFS = -9

MOST_SECONDS = 20000
MOST_METRES = 100000
MOST_EXTRA = 9999
MOST_REACH = 200


class UnknownCall(ValueError):
    pass


class Meter:
    def __init__(self):
        self.tariffs = []
        self.hire = None
        self.rank = Rank()


def answer_begin(meter, tariffs):
    if not are_tariffs(tariffs):
        return [WRONG]
    meter.tariffs = tariffs
    meter.hire = None
    meter.rank = Rank()
    return [0]


def answer_hire(meter, second):
    if len(meter.tariffs) == 0:
        return [NO_TARIFFS]
    if second >= DAY:
        return [WRONG]
    if meter.hire is not None:
        return [HAS_BEGUN]
    meter.hire = Hire(meter.tariffs, second)
    return [meter.hire.fare]


def way_refusal(meter, s, m):
    if meter.hire is None:
        return NO_HIRE
    if s < 1 or s > MOST_SECONDS or m > MOST_METRES:
        return WRONG
    return FINE


def answer_drive(meter, s, m):
    refusal = way_refusal(meter, s, m)
    if refusal != FINE:
        return [refusal]
    # A way that is refused midway mustn't change the hire, so a copy goes it.
    driven = copied(meter.hire)
    if not drive_way(driven, s, m):
        return [TOO_LONG]
    fallen = len(driven.falls) - len(meter.hire.falls)
    meter.hire = driven
    return [fare_with_extras(driven), fallen]


def answer_extra(meter, n):
    if meter.hire is None:
        return [NO_HIRE]
    if n > MOST_EXTRA:
        return [WRONG]
    meter.hire.extras += n
    return [fare_with_extras(meter.hire)]


def answer_fare(meter):
    hire = meter.hire
    if hire is None:
        return [NO_HIRE]
    return [hire.fare, hire.extras, len(hire.falls), hire.part[0], hire.part[1], tariff_place(hire)]


def answer_drops(meter):
    if meter.hire is None:
        return [NO_HIRE]
    told = [len(meter.hire.falls)]
    for gone in meter.hire.falls:
        told.append(gone[0])
        told.append(gone[1])
    return told


def answer_next(meter, s, m):
    refusal = way_refusal(meter, s, m)
    if refusal != FINE:
        return [refusal]
    seconds = seconds_till_drop(meter.hire, 1, s, m)
    if seconds is None:
        return [TOO_LONG]
    return list(seconds)


def answer_would(meter, s, m):
    before = meter.hire
    told = answer_drive(meter, s, m)
    # Drive puts a copy in the hire's place, so the one from before is as it was.
    meter.hire = before
    return told[:1]


def answer_pay(meter):
    hire = meter.hire
    if hire is None:
        return [NO_HIRE]
    meter.hire = None
    return [fare_with_extras(hire), hire.gone[0], hire.gone[1]]


def answer_reach(meter, n, s, m):
    refusal = way_refusal(meter, s, m)
    if refusal != FINE:
        return [refusal]
    if n > MOST_REACH:
        return [WRONG]
    seconds = seconds_till_drop(meter.hire, n + 1, s, m)
    if seconds is None:
        return [TOO_LONG]
    return list(times(seconds, lowest(m, s)))


def answer_join(rank, cab):
    if cab > MOST_CAB:
        return [WRONG]
    if is_known(rank, cab):
        return [IS_THERE]
    rank.waiting.append(cab)
    return [len(rank.waiting)]


def answer_take(rank, now):
    if len(rank.waiting) == 0:
        return [NOBODY]
    return [take_first(rank, now)]


def answer_back(rank, cab, now, fare):
    if cab not in rank.away:
        return [NOT_THERE]
    if now < rank.away[cab]:
        return [WRONG]
    return [bring_back(rank, cab, now, fare)]


def answer_leave(rank, cab):
    if cab not in rank.waiting:
        return [NOT_THERE]
    rank.waiting.remove(cab)
    return [len(rank.waiting)]


def answer_rank(rank):
    return [len(rank.waiting)] + rank.waiting + [len(rank.away)] + list(rank.away)


def answer_call(meter, call):
    number = call.number
    numbers = call.numbers
    if number == 0:
        return answer_begin(meter, call.lists)
    if number == 1:
        return answer_hire(meter, numbers[0])
    if number == 2:
        return answer_drive(meter, numbers[0], numbers[1])
    if number == 3:
        return answer_extra(meter, numbers[0])
    if number == 4:
        return answer_fare(meter)
    if number == 5:
        return answer_drops(meter)
    if number == 6:
        return answer_next(meter, numbers[0], numbers[1])
    if number == 7:
        return answer_would(meter, numbers[0], numbers[1])
    if number == 8:
        return answer_pay(meter)
    if number == 9:
        return answer_reach(meter, numbers[0], numbers[1], numbers[2])
    return answer_rank_call(meter.rank, number, numbers)


def answer_rank_call(rank, number, numbers):
    if number == 10:
        return answer_join(rank, numbers[0])
    if number == 11:
        return answer_take(rank, numbers[0])
    if number == 12:
        return answer_back(rank, numbers[0], numbers[1], numbers[2])
    if number == 13:
        return answer_leave(rank, numbers[0])
    if number == 14:
        return answer_rank(rank)
    raise UnknownCall(f"no call has the number {number}")


def answers(calls):
    meter = Meter()
    told = []
    for call in read_calls(calls):
        answer = answer_call(meter, call)
        told.append(len(answer))
        told.extend(answer)
    return told
