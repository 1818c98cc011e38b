"""How the tests write calls, read answers, and find the best end the plain way."""

from worthmost.ends import answers

LARGEST = 4294967295


def begins(facts, so):
    return [0, facts, so]


def act(*parts):
    return [1, len(parts)] + list(parts)


def worth(facts, much):
    return [2, facts, much]


def start(so):
    return [3, so]


def best(spent):
    return [4, spent]


def joined(calls):
    return [number for call in calls for number in call]


def split(given):
    """Take the answers apart by the counts that stand before them."""
    rows = []
    place = 0
    while place < len(given):
        count = given[place]
        row = given[place + 1:place + 1 + count]
        if count < 1 or len(row) != count:
            raise ValueError(f"the count {count} at {place} doesn't fit: {given}")
        rows.append(row)
        place += 1 + count
    return rows


def asked(*calls):
    """The answers to these calls, a list each."""
    rows = split(answers(joined(calls)))
    if len(rows) != len(calls):
        raise ValueError(f"{len(calls)} calls, but {len(rows)} answers")
    return rows


def last(*calls):
    return asked(*calls)[-1]


def facts_of(bits):
    return frozenset(k for k in range(32) if bits >> k & 1)


def every_end(first, acts, spent):
    """Every row of acts that can be done for so much, with its cost and the facts behind it."""
    found = []
    open_ends = [((), 0, facts_of(first))]
    while open_ends:
        row, cost, so = open_ends.pop()
        found.append((row, cost, so))
        for number, (needs, bars, brings, takes, price) in enumerate(acts):
            if cost + price > spent or not facts_of(needs) <= so or facts_of(bars) & so:
                continue
            behind = (so - facts_of(takes)) | facts_of(brings)
            open_ends.append((row + (number,), cost + price, behind))
    return found


def plain_best(first, acts, worths, spent):
    """The best answer, found by looking at every end there is."""
    ranked = []
    for row, cost, so in every_end(first, acts, spent):
        much = sum(price for facts, price in worths if facts_of(facts) <= so)
        ranked.append((-much, cost, len(row), row))
    less, cost, length, row = min(ranked)
    return [-less, cost] + list(row)


class Dice:
    """Numbers that look mixed but are the same on every run and every Python."""

    def __init__(self, seed):
        self.state = seed

    def below(self, limit):
        self.state = (self.state * 6364136223846793005 + 1442695040888963407) % 2 ** 64
        return (self.state >> 33) % limit
