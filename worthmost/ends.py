"""The calls on one house, and what they answer: which end is worth most for so much."""

BEGINS = 0
ACT = 1
WORTH = 2
START = 3
BEST = 4

WRONG = -1
FULL = -7

MOST_FACTS = 6
MOST_ACTS = 10
MOST_WORTHS = 8
MOST_PRICE = 1000


class UnknownCall(ValueError):
    """A call's number that nothing here answers."""


class Act:
    """What has to be so, what mustn't, what is so behind it and what not, and its cost."""

    def __init__(self, parts):
        self.needs = parts[0]
        self.bars = parts[1]
        self.brings = parts[2]
        self.takes = parts[3]
        self.cost = parts[4]

    def may_be_done(self, state):
        return has_all(state, self.needs) and (state & self.bars) == 0

    def state_behind(self, state):
        # The bringing comes last: a fact that is both taken away and brought is so.
        return (state & ~self.takes) | self.brings


class House:
    """Facts, acts and what is worth something; each call answers a list of numbers."""

    def __init__(self):
        self.fact_count = 1
        self.first_state = 0
        self.acts = []
        self.worths = []

    def begins(self, facts, so):
        if facts < 1 or facts > MOST_FACTS or not are_there(facts, so):
            return [WRONG]
        self.fact_count = facts
        self.first_state = so
        self.acts = []
        self.worths = []
        return [0]

    def act(self, parts):
        if len(self.acts) >= MOST_ACTS:
            return [FULL]
        if not are_act_parts(self.fact_count, parts):
            return [WRONG]
        self.acts.append(Act(parts))
        return [len(self.acts) - 1]

    def worth(self, facts, much):
        if len(self.worths) >= MOST_WORTHS:
            return [FULL]
        if not are_there(self.fact_count, facts) or not is_price(much):
            return [WRONG]
        self.worths.append((facts, much))
        return [len(self.worths) - 1]

    def start(self, so):
        if not are_there(self.fact_count, so):
            return [WRONG]
        self.first_state = so
        return [0]

    def best(self, spent):
        ends = cheapest_ends(self.first_state, self.acts)
        # The worth is turned below 0, so that the lowest pair is worth most, then has the better end.
        pairs = [(-self.worth_of(state), end) for state, end in ends.items() if end[0] <= spent]
        chosen = min(pairs)
        end = chosen[1]
        return [-chosen[0], end[0]] + list(end[2])

    def worth_of(self, state):
        return sum([much for facts, much in self.worths if has_all(state, facts)])


def has_all(state, facts):
    return (state & facts) == facts


def are_there(fact_count, facts):
    return facts < (1 << fact_count)


def is_price(number):
    return number >= 1 and number <= MOST_PRICE


def are_act_parts(fact_count, parts):
    if len(parts) != 5:
        return False
    for facts in parts[:4]:
        if not are_there(fact_count, facts):
            return False
    return is_price(parts[4])


def cheapest_ends(first_state, acts):
    """Give each state that can be reached its cheapest end, of as cheap ones the neatest.

    An end is its cost, how many acts it has, and these: of two ends the lower one is the better.
    """
    settled = {}
    waiting = {first_state: (0, 0, ())}
    while len(waiting) > 0:
        state = state_of_lowest(waiting)
        # Every act costs something, so no other end that is waiting can grow into a better one.
        settled[state] = waiting.pop(state)
        for behind, end in ends_one_longer(state, settled[state], acts):
            if behind not in settled and (behind not in waiting or end < waiting[behind]):
                waiting[behind] = end
    return settled


def state_of_lowest(ends):
    # No two ends are alike here: the same acts from the same state lead to one state.
    pairs = [(end, state) for state, end in ends.items()]
    return min(pairs)[1]


def ends_one_longer(state, end, acts):
    """List each state one act behind this one, with the end that leads there."""
    longer = []
    for number, act in enumerate(acts):
        if act.may_be_done(state):
            grown = (end[0] + act.cost, end[1] + 1, end[2] + (number,))
            longer.append((act.state_behind(state), grown))
    return longer


def call_length(calls, place):
    """Tell how many numbers the call at this place has, its own number among them."""
    kind = calls[place]
    if kind == ACT:
        return 2 + calls[place + 1]
    if kind == BEGINS or kind == WORTH:
        return 3
    if kind == START or kind == BEST:
        return 2
    raise UnknownCall(f"no call has the number {kind}")


def answer_of(house, call):
    kind = call[0]
    if kind == BEGINS:
        return house.begins(call[1], call[2])
    if kind == ACT:
        return house.act(call[2:])
    if kind == WORTH:
        return house.worth(call[1], call[2])
    if kind == START:
        return house.start(call[1])
    return house.best(call[1])


def answers(calls):
    """Answer the calls, one behind another: of each how many numbers, then these."""
    house = House()
    given = []
    place = 0
    while place < len(calls):
        length = call_length(calls, place)
        answer = answer_of(house, calls[place:place + length])
        given.append(len(answer))
        given.extend(answer)
        place = place + length
    return given
