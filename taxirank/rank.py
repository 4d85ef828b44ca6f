"""The rank: cabs that stand one behind the other, and those that are away."""

MOST_CAB = 99

# Who is back at most so long behind, with a fare below this one, was sent round the corner for nothing.
SOON = 900
WORTH_IT = 500


class Rank:
    def __init__(self):
        self.waiting = []
        # Since when each is away. A dict keeps the order in which keys came: as they were taken.
        self.away = {}


def is_known(rank, cab):
    return cab in rank.waiting or cab in rank.away


def take_first(rank, now):
    cab = rank.waiting.pop(0)
    rank.away[cab] = now
    return cab


def keeps_turn(since, now, fare):
    return now - since <= SOON and fare < WORTH_IT


def bring_back(rank, cab, now, fare):
    since = rank.away.pop(cab)
    ahead = len(rank.waiting)
    if keeps_turn(since, now, fare):
        ahead = 0
    rank.waiting.insert(ahead, cab)
    return ahead
