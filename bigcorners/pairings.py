"""Counting in how many ways nodes that need one another can be paired."""

# So many bits of an integer keep what one node needs: less than 64.
BITS = 6
# To make an order is about as much work as to count through so many states.
WORK_OF_ORDER = 5000


def count_pairings(needs, pairs):
    """In how many ways pairs can be chosen so that each node is in just as many of them as it needs.

    needs: for each node, how many it needs. pairs: each as (node, node, in how many ways it can be chosen). It goes
    from pair to pair, and keeps what the nodes still need, and in how many ways that comes about: what was chosen
    matters no further. So it takes an order in which few nodes are begun and not done at one time.
    """
    useful = [pair for pair in pairs if needs[pair[0]] > 0 and needs[pair[1]] > 0]
    last = {}
    for at, (one, other, _) in enumerate(useful):
        last[one] = at
        last[other] = at
    # No pair serves a node that needs less than nothing, either.
    if not all([need == 0 or node in last for node, need in enumerate(needs)]):
        return 0
    states = {packed(needs): 1}
    for at, (one, other, ways) in enumerate(useful):
        states = after_pair(states, BITS * one, BITS * other, ways)
        for node in (one, other):
            if last[node] == at:
                states = served(states, BITS * node)
    return sum(list(states.values()))


def packed(needs):
    """What all nodes need, in one integer."""
    state = 0
    for node, need in enumerate(needs):
        state += need << (BITS * node)
    return state


def after_pair(states, one, other, ways):
    """The states behind a pair, chosen or not. (one, other: the bits from which on its nodes' needs are kept.)"""
    mask = (1 << BITS) - 1
    less = (1 << one) + (1 << other)
    found = {state: many for state, many in states.items()}
    for state, many in states.items():
        if (state >> one) & mask and (state >> other) & mask:
            found[state - less] = found.get(state - less, 0) + many * ways
    return found


def served(states, bits):
    """The states in which a node needs nothing more."""
    mask = (1 << BITS) - 1
    return {state: many for state, many in states.items() if (state >> bits) & mask == 0}


class Order:
    """An order of nodes that grows. Behind each of its nodes all pairs of this node have been gone through."""

    def __init__(self, needs, beside):
        self.needs = needs
        self.beside = beside
        self.rank = {}
        # For each node, through how many of its pairs one has gone, and how many needs it can have then.
        self.passed = {node: 0 for node in beside}
        self.spread = {node: 1 for node in beside}
        # How many states there can be at most, now and at all times together.
        self.states = 1
        self.work = 0

    def spread_behind(self, node):
        """How many needs a node can have behind one pair more, if it needs no more than pairs are left."""
        passed = self.passed[node] + 1
        least = max(0, self.needs[node] - passed)
        most = min(self.needs[node], len(self.beside[node]) - passed)
        return max(1, most - least + 1)

    def later_beside(self, node):
        """The nodes in pairs with a node that are not in the order."""
        return [other for other in self.beside[node] if other not in self.rank]

    def states_behind(self, node):
        """How many states there can be if this node comes next."""
        states = self.states // self.spread[node]
        for other in self.later_beside(node):
            states = states // self.spread[other] * self.spread_behind(other)
        return states

    def take_best(self):
        """The node behind which there can be fewest states comes next."""
        self.take(min([(self.states_behind(node), node) for node in self.beside if node not in self.rank])[1])

    def take(self, node):
        """This node comes next."""
        self.states = self.states_behind(node)
        self.work += self.states
        for other in self.later_beside(node):
            self.spread[other] = self.spread_behind(other)
            self.passed[other] += 1
        self.rank[node] = len(self.rank)


def in_good_order(needs, pairs):
    """Those of the pairs that can be chosen, in an order that is good to count in.

    Orders are made from one node on and from the next, until the best one is as little work as making them was.
    """
    useful = [pair for pair in pairs if needs[pair[0]] > 0 and needs[pair[1]] > 0]
    beside = {}
    for one, other, _ in useful:
        beside.setdefault(one, []).append(other)
        beside.setdefault(other, []).append(one)
    best = Order(needs, {})
    for made, start in enumerate(beside):
        if made > 0 and best.work <= WORK_OF_ORDER * made:
            break
        order = Order(needs, beside)
        order.take(start)
        while len(order.rank) < len(beside) and (made == 0 or order.work < best.work):
            order.take_best()
        if made == 0 or order.work < best.work:
            best = order
    return ordered_by(best.rank, useful)


def ordered_by(rank, pairs):
    """The pairs in the order in which their first nodes, and then their second ones, come."""
    keyed = [(min(rank[pair[0]], rank[pair[1]]), max(rank[pair[0]], rank[pair[1]]), pair) for pair in pairs]
    return [pair for _, _, pair in sorted(keyed)]
