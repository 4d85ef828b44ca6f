"""The meter: answers the calls of one line, each by its number."""

from taxirank.fraction import minus
from taxirank.hire import Hire, copied, drive_till_drop, drive_way, fare_with_extras, tariff_place
from taxirank.reading import read_calls
from taxirank.tariff import DAY, are_tariffs

FINE = 0
WRONG = -1
HAS_BEGUN = -4
TOO_LONG = -5
NO_HIRE = -6
NO_TARIFFS = -9

MOST_SECONDS = 20000
MOST_METRES = 100000
MOST_EXTRA = 9999


class UnknownCall(ValueError):
    pass


class Meter:
    def __init__(self):
        self.tariffs = []
        self.hire = None


def answer_begin(meter, tariffs):
    if not are_tariffs(tariffs):
        return [WRONG]
    meter.tariffs = tariffs
    meter.hire = None
    return [0]


def answer_hire(meter, second):
    if len(meter.tariffs) == 0:
        return [NO_TARIFFS]
    if second >= DAY:
        return [WRONG]
    if meter.hire is not None:
        return [HAS_BEGUN]
    meter.hire = Hire(meter.tariffs, second)
    return [meter.hire.fare]


def way_refusal(meter, s, m):
    if meter.hire is None:
        return NO_HIRE
    if s < 1 or s > MOST_SECONDS or m > MOST_METRES:
        return WRONG
    return FINE


def answer_drive(meter, s, m):
    refusal = way_refusal(meter, s, m)
    if refusal != FINE:
        return [refusal]
    # A way that is refused midway mustn't change the hire, so a copy goes it.
    driven = copied(meter.hire)
    if not drive_way(driven, s, m):
        return [TOO_LONG]
    fallen = len(driven.falls) - len(meter.hire.falls)
    meter.hire = driven
    return [fare_with_extras(driven), fallen]


def answer_extra(meter, n):
    if meter.hire is None:
        return [NO_HIRE]
    if n > MOST_EXTRA:
        return [WRONG]
    meter.hire.extras += n
    return [fare_with_extras(meter.hire)]


def answer_fare(meter):
    hire = meter.hire
    if hire is None:
        return [NO_HIRE]
    return [hire.fare, hire.extras, len(hire.falls), hire.part[0], hire.part[1], tariff_place(hire)]


def answer_drops(meter):
    if meter.hire is None:
        return [NO_HIRE]
    told = [len(meter.hire.falls)]
    for gone in meter.hire.falls:
        told.append(gone[0])
        told.append(gone[1])
    return told


def answer_next(meter, s, m):
    refusal = way_refusal(meter, s, m)
    if refusal != FINE:
        return [refusal]
    driven = copied(meter.hire)
    if not drive_till_drop(driven, s, m):
        return [TOO_LONG]
    return list(minus(driven.gone, meter.hire.gone))


def answer_would(meter, s, m):
    before = meter.hire
    told = answer_drive(meter, s, m)
    # Drive puts a copy in the hire's place, so the one from before is as it was.
    meter.hire = before
    return told[:1]


def answer_call(meter, call):
    number = call.number
    numbers = call.numbers
    if number == 0:
        return answer_begin(meter, call.lists)
    if number == 1:
        return answer_hire(meter, numbers[0])
    if number == 2:
        return answer_drive(meter, numbers[0], numbers[1])
    if number == 3:
        return answer_extra(meter, numbers[0])
    if number == 4:
        return answer_fare(meter)
    if number == 5:
        return answer_drops(meter)
    if number == 6:
        return answer_next(meter, numbers[0], numbers[1])
    if number == 7:
        return answer_would(meter, numbers[0], numbers[1])
    raise UnknownCall(f"no call has the number {number}")


def answers(calls):
    meter = Meter()
    told = []
    for call in read_calls(calls):
        answer = answer_call(meter, call)
        told.append(len(answer))
        told.extend(answer)
    return told
