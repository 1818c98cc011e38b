"""The calls on one house, and what they answer: which ends are worth most, cost least or leave most."""

BEGINS = 0
ACT = 1
WORTH = 2
START = 3
BEST = 4
LEAST = 5
NET = 6
FRONT = 7
DROP = 8

WRONG = -1
NOT_THERE = -2
NEVER_SO_MUCH = -6
FULL = -7

MOST_FACTS = 6
MOST_ACTS = 10
MOST_WORTHS = 8
MOST_PRICE = 1000


class Act:
    """What has to be so, what mustn't, what is so behind it and what not, and its cost."""

    def __init__(self, parts):
        self.needs = parts[0]
        self.bars = parts[1]
        self.brings = parts[2]
        self.takes = parts[3]
        self.cost = parts[4]

    def may_be_done(self, state):
        return has_all(state, self.needs) and (state & self.bars) == 0

    def state_behind(self, state):
        # The bringing comes last: a fact that is both taken away and brought is so.
        return (state & ~self.takes) | self.brings


class House:
    """Facts, acts and what is worth something; each call answers a list of numbers."""

    def __init__(self):
        self.fact_count = 1
        self.first_state = 0
        self.acts = []
        self.worths = []

    def begins(self, facts, so):
        if facts < 1 or facts > MOST_FACTS or not are_there(facts, so):
            return [WRONG]
        self.fact_count = facts
        self.first_state = so
        self.acts = []
        self.worths = []
        return [0]

    def act(self, parts):
        if len(self.acts) >= MOST_ACTS:
            return [FULL]
        if not are_act_parts(self.fact_count, parts):
            return [WRONG]
        self.acts.append(Act(parts))
        return [len(self.acts) - 1]

    def worth(self, facts, much):
        if len(self.worths) >= MOST_WORTHS:
            return [FULL]
        if not are_there(self.fact_count, facts) or not is_price(much):
            return [WRONG]
        self.worths.append((facts, much))
        return [len(self.worths) - 1]

    def start(self, so):
        if not are_there(self.fact_count, so):
            return [WRONG]
        self.first_state = so
        return [0]

    def best(self, spent):
        # The worth is turned below 0, so that the lowest is worth most, then has the better end.
        ranked = [(-much, end) for much, end in self.valued_ends() if end[0] <= spent]
        chosen = min(ranked)
        end = chosen[1]
        return [-chosen[0], end[0]] + list(end[2])

    def least(self, much):
        # The end ranks ahead of its worth: of as cheap ends the neatest is told, even if another is worth more.
        ranked = [(end, had) for had, end in self.valued_ends() if had >= much]
        if len(ranked) == 0:
            return [NEVER_SO_MUCH]
        chosen = min(ranked)
        end = chosen[0]
        return [end[0], chosen[1]] + list(end[2])

    def net(self):
        # What is left is turned below 0, so that of the lowest most is left, then it has the better end.
        ranked = [(end[0] - much, end, much) for much, end in self.valued_ends()]
        chosen = min(ranked)
        end = chosen[1]
        return [0, chosen[2], end[0]] + list(end[2])

    def front(self):
        pairs = front_of([(end[0], much) for much, end in self.valued_ends()])
        answer = [len(pairs)]
        for cost, much in pairs:
            answer.append(cost)
            answer.append(much)
        return answer

    def drop(self, which):
        if which >= len(self.worths):
            return [NOT_THERE]
        self.worths.pop(which)
        return [len(self.worths)]

    def valued_ends(self):
        """List what each state that can be reached is worth, with the best end that leads there."""
        # Every other end there costs more or is less neat for the same worth, so no call ever tells it.
        ends = cheapest_ends(self.first_state, self.acts)
        return [(self.worth_of(state), end) for state, end in ends.items()]

    def worth_of(self, state):
        return sum([much for facts, much in self.worths if has_all(state, facts)])


def has_all(state, facts):
    return (state & facts) == facts


def are_there(fact_count, facts):
    return facts < (1 << fact_count)


def is_price(number):
    return number >= 1 and number <= MOST_PRICE


def are_act_parts(fact_count, parts):
    if len(parts) != 5:
        return False
    for facts in parts[:4]:
        if not are_there(fact_count, facts):
            return False
    return is_price(parts[4])


def cheapest_ends(first_state, acts):
    """Give each state that can be reached its cheapest end, of as cheap ones the neatest.

    An end is its cost, how many acts it has, and these: of two ends the lower one is the better.
    """
    settled = {}
    waiting = {first_state: (0, 0, ())}
    while len(waiting) > 0:
        state = state_of_lowest(waiting)
        # Every act costs something, so no other end that is waiting can grow into a better one.
        settled[state] = waiting.pop(state)
        for behind, end in ends_one_longer(state, settled[state], acts):
            if behind not in settled and (behind not in waiting or end < waiting[behind]):
                waiting[behind] = end
    return settled


def state_of_lowest(ends):
    # No two ends are alike here: the same acts from the same state lead to one state.
    pairs = [(end, state) for state, end in ends.items()]
    return min(pairs)[1]


def ends_one_longer(state, end, acts):
    """List each state one act behind this one, with the end that leads there."""
    longer = []
    for number, act in enumerate(acts):
        if act.may_be_done(state):
            grown = (end[0] + act.cost, end[1] + 1, end[2] + (number,))
            longer.append((act.state_behind(state), grown))
    return longer


def front_of(pairs):
    """Keep the pairs of cost and worth that no other pair beats, rising, each once."""
    kept = []
    # At one cost what's worth most comes first, so a pair stays only if it is worth more than all before it.
    for cost, much in sorted(pairs, key=lambda pair: (pair[0], -pair[1])):
        if len(kept) == 0 or much > kept[-1][1]:
            kept.append((cost, much))
    return kept


def call_length(calls, place):
    """Tell how many numbers the call at this place has, its own number among them."""
    kind = calls[place]
    if kind == ACT:
        return 2 + calls[place + 1]
    if kind == BEGINS or kind == WORTH:
        return 3
    if kind == NET or kind == FRONT:
        return 1
    return 2


def answer_of(house, call):
    kind = call[0]
    if kind == BEGINS:
        return house.begins(call[1], call[2])
    if kind == ACT:
        return house.act(call[2:])
    if kind == WORTH:
        return house.worth(call[1], call[2])
    if kind == START:
        return house.start(call[1])
    if kind == BEST:
        return house.best(call[1])
    if kind == LEAST:
        return house.least(call[1])
    if kind == NET:
        return house.net()
    if kind == FRONT:
        return house.front()
    return house.drop(call[1])


def answers(calls):
    """Answer the calls, one behind another: of each how many numbers, then these."""
    house = House()
    given = []
    place = 0
    while place < len(calls):
        length = call_length(calls, place)
        answer = answer_of(house, calls[place:place + length])
        given.append(len(answer))
        given.extend(answer)
        place = place + length
    return given
