"""Tariffs: lists of seven numbers, and which of them holds at a second of the day."""

DAY = 86400
MOST_TARIFFS = 4

# Where each number stands in a tariff.
HOLDS_FROM = 0
HIRING_PRICE = 1
HIRING_METRES = 2
HIRING_SECONDS = 3
DROP_PRICE = 4
DROP_METRES = 5
DROP_SECONDS = 6

LEAST = (0, 0, 1, 1, 1, 1, 1)
MOST = (86399, 9999, 9999, 9999, 9999, 9999, 9999)


def is_tariff(numbers):
    if len(numbers) != len(LEAST):
        return False
    for place in range(len(LEAST)):
        if numbers[place] < LEAST[place] or numbers[place] > MOST[place]:
            return False
    return True


def are_tariffs(lists):
    if len(lists) < 1 or len(lists) > MOST_TARIFFS:
        return False
    for numbers in lists:
        if not is_tariff(numbers):
            return False
    for place in range(1, len(lists)):
        if lists[place][HOLDS_FROM] <= lists[place - 1][HOLDS_FROM]:
            return False
    return True


def which_holds(tariffs, second):
    # Ahead of the first one's second the last one still holds, from the day before.
    found = len(tariffs) - 1
    for place in range(len(tariffs)):
        if tariffs[place][HOLDS_FROM] <= second:
            found = place
    return found


def seconds_till_change(tariffs, second):
    # A tariff that begins at this very second has begun: it's a whole day till it begins again.
    return min([(tariff[HOLDS_FROM] - second - 1) % DAY + 1 for tariff in tariffs])
