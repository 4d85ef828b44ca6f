"""Takes the one list of whole numbers that is handed in apart into its calls."""


class Call:
    def __init__(self, number, numbers, lists):
        self.number = number
        self.numbers = numbers
        self.lists = lists


def read_calls(line):
    found = []
    place = 0
    while place < len(line):
        numbers = read_list(line, place + 1)
        lists_at = place + 2 + len(numbers)
        lists = read_lists(line, lists_at)
        found.append(Call(line[place], numbers, lists))
        place = lists_at + 1 + sum([1 + len(one) for one in lists])
    return found


def read_lists(line, place):
    lists = []
    at = place + 1
    for turn in range(line[place]):
        one = read_list(line, at)
        lists.append(one)
        at += 1 + len(one)
    return lists


def read_list(line, place):
    return line[place + 1:place + 1 + line[place]]
