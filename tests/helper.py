"""How the tests write calls, read answers, and find these the plain way."""

from worthmost.ends import answers

LARGEST = 4294967295


def begins(facts, so):
    return [0, facts, so]


def act(*parts):
    return [1, len(parts)] + list(parts)


def worth(facts, much):
    return [2, facts, much]


def start(so):
    return [3, so]


def best(spent):
    return [4, spent]


def least(much):
    return [5, much]


def net():
    return [6]


def front():
    return [7]


def drop(which):
    return [8, which]


def counting_acts(cost):
    """Acts that count upward: together they go through all states of six facts, one by one."""
    return [act((1 << k) - 1, 1 << k, 1 << k, (1 << k) - 1, cost) for k in range(6)]


def joined(calls):
    return [number for call in calls for number in call]


def split(given):
    """Take the answers apart by the counts that stand before them."""
    rows = []
    place = 0
    while place < len(given):
        count = given[place]
        row = given[place + 1:place + 1 + count]
        if count < 1 or len(row) != count:
            raise ValueError(f"the count {count} at {place} doesn't fit: {given}")
        rows.append(row)
        place += 1 + count
    return rows


def asked(*calls):
    """The answers to these calls, a list each."""
    rows = split(answers(joined(calls)))
    if len(rows) != len(calls):
        raise ValueError(f"{len(calls)} calls, but {len(rows)} answers")
    return rows


def last(*calls):
    return asked(*calls)[-1]


def facts_of(bits):
    return frozenset(k for k in range(32) if bits >> k & 1)


def steps(so, acts):
    """Each act that may be done where these facts are so: its number, its cost and the facts behind it."""
    found = []
    for number, (needs, bars, brings, takes, price) in enumerate(acts):
        if facts_of(needs) <= so and not facts_of(bars) & so:
            found.append((number, price, (so - facts_of(takes)) | facts_of(brings)))
    return found


def every_end(first, acts, spent):
    """Every row of acts that can be done for so much, with its cost and the facts behind it."""
    found = []
    open_ends = [((), 0, facts_of(first))]
    while open_ends:
        row, cost, so = open_ends.pop()
        found.append((row, cost, so))
        for number, price, behind in steps(so, acts):
            if cost + price <= spent:
                open_ends.append((row + (number,), cost + price, behind))
    return found


def ends_without_detour(first, acts):
    """Every row of acts that never comes back to a state: what does costs more and leads nowhere else."""
    found = []
    open_ends = [((), 0, (facts_of(first),))]
    while open_ends:
        row, cost, states = open_ends.pop()
        found.append((row, cost, states[-1]))
        for number, price, behind in steps(states[-1], acts):
            if behind not in states:
                open_ends.append((row + (number,), cost + price, states + (behind,)))
    return found


def ends_by_length(first, acts, longest):
    """For each number of acts up to the longest the cheapest, then first, row into each state."""
    found = []
    layer = {facts_of(first): (0, ())}
    for length in range(longest + 1):
        found.extend((row, cost, so) for so, (cost, row) in layer.items())
        following = {}
        for so, (cost, row) in layer.items():
            for number, price, behind in steps(so, acts):
                grown = (cost + price, row + (number,))
                following[behind] = min(following.get(behind, grown), grown)
        layer = following
    return found


def valued(ends, worths):
    """These ends as rows, costs, and what the facts behind them are worth."""
    sets = [(facts_of(facts), price) for facts, price in worths]
    return [(row, cost, sum(price for facts, price in sets if facts <= so)) for row, cost, so in ends]


def plain_best(ends, spent):
    ranked = [(-much, cost, len(row), row) for row, cost, much in ends if cost <= spent]
    less, cost, length, row = min(ranked)
    return [-less, cost] + list(row)


def plain_least(ends, wanted):
    ranked = [(cost, len(row), row, much) for row, cost, much in ends if much >= wanted]
    if not ranked:
        return [-6]
    cost, length, row, much = min(ranked)
    return [cost, much] + list(row)


def plain_net(ends):
    ranked = [(-(much - cost), cost, len(row), row, much) for row, cost, much in ends]
    less, cost, length, row, much = min(ranked)
    return [0, much, cost] + list(row)


def plain_front(ends):
    pairs = {(cost, much) for row, cost, much in ends}
    kept = []
    for cost, much in sorted(pairs):
        if not any((c == cost and m > much) or (c < cost and m >= much) for c, m in pairs):
            kept.append((cost, much))
    return [len(kept)] + [number for pair in kept for number in pair]


class PlainHouse:
    """The nine calls once more, read off the document, with a search through every end without a detour."""

    def __init__(self):
        self.renew(1, 0)

    def renew(self, facts, so):
        self.facts, self.so, self.acts, self.worths = facts, so, [], []

    def there(self, bits):
        return facts_of(bits) <= frozenset(range(self.facts))

    def ends(self):
        return valued(ends_without_detour(self.so, self.acts), self.worths)

    def answer(self, call):
        kind, rest = call[0], call[1:]
        told = (self.begins, self.act, self.worth, self.start, self.best, self.least, self.net, self.front, self.drop)
        return told[kind](*rest[1:]) if kind == 1 else told[kind](*rest)

    def begins(self, facts, so):
        if facts not in (1, 2, 3, 4, 5, 6) or not facts_of(so) <= frozenset(range(facts)):
            return [-1]
        self.renew(facts, so)
        return [0]

    def act(self, *parts):
        if len(self.acts) == 10:
            return [-7]
        if len(parts) != 5 or not all(self.there(bits) for bits in parts[:4]) or not 1 <= parts[4] <= 1000:
            return [-1]
        self.acts = self.acts + [parts]
        return [len(self.acts) - 1]

    def worth(self, facts, much):
        if len(self.worths) == 8:
            return [-7]
        if not self.there(facts) or not 1 <= much <= 1000:
            return [-1]
        self.worths = self.worths + [(facts, much)]
        return [len(self.worths) - 1]

    def start(self, so):
        if not self.there(so):
            return [-1]
        self.so = so
        return [0]

    def best(self, spent):
        return plain_best(self.ends(), spent)

    def least(self, much):
        return plain_least(self.ends(), much)

    def net(self):
        return plain_net(self.ends())

    def front(self):
        return plain_front(self.ends())

    def drop(self, which):
        if which >= len(self.worths):
            return [-2]
        self.worths = [pair for place, pair in enumerate(self.worths) if place != which]
        return [len(self.worths)]


class Dice:
    """Numbers that look mixed but are the same on every run and every Python."""

    def __init__(self, seed):
        self.state = seed

    def below(self, limit):
        self.state = (self.state * 6364136223846793005 + 1442695040888963407) % 2 ** 64
        return (self.state >> 33) % limit
