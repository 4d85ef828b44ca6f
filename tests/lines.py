"""Builds lines of calls for taxirank.meter.answers and takes what it gives back apart."""

from taxirank.meter import answers

# By day 300 for the first 1000 m or 100 s, then 20 for each 100 m or 20 s; from 06:00.
DAYTIME = (21600, 300, 1000, 100, 20, 100, 20)
# By night 500 for the first 1000 m or 50 s, then 40 for each 100 m or 10 s; from 22:00.
NIGHT = (79200, 500, 1000, 50, 40, 100, 10)
# One tariff for the whole day, from midnight.
PLAIN = (0, 300, 1000, 120, 20, 100, 20)
# A drop falls in each second, from the first on, while the cab stands.
QUICK = (0, 0, 9999, 1, 1, 9999, 1)
# At 2 m a second drops fall at 1/2, 3/2, 5/2 .. seconds.
HALVES = (0, 0, 1, 9999, 1, 2, 9999)


def call(number, *numbers, lists=()):
    line = [number, len(numbers), *numbers, len(lists)]
    for one in lists:
        line += [len(one), *one]
    return line


def begin(*tariffs):
    return call(0, lists=tariffs)


def hire(second):
    return call(1, second)


def drive(s, m):
    return call(2, s, m)


def extra(n):
    return call(3, n)


def fare():
    return call(4)


def drops():
    return call(5)


def next_drop(s, m):
    return call(6, s, m)


def would(s, m):
    return call(7, s, m)


def pay():
    return call(8)


def reach(n, s, m):
    return call(9, n, s, m)


def join(cab):
    return call(10, cab)


def take(now):
    return call(11, now)


def back(cab, now, price):
    return call(12, cab, now, price)


def leave(cab):
    return call(13, cab)


def rank():
    return call(14)


def line_of(*calls):
    return [number for one in calls for number in one]


def taken_apart(told):
    found = []
    place = 0
    while place < len(told):
        end = place + 1 + told[place]
        assert told[place] > 0 and end <= len(told), told
        found.append(told[place + 1:end])
        place = end
    return found


def ask(*calls):
    """The answers of a line, one list a call."""
    found = taken_apart(answers(line_of(*calls)))
    assert len(found) == len(calls), found
    return found


def last(*calls):
    """The answer of a line's last call."""
    return ask(*calls)[-1]
