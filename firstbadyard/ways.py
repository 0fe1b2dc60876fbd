"""Ways of trying some changes that are left: the best one, and the one that always halves."""

# A way's costs are kept by these places; the calls' kinds are the same two numbers.
AT_WORST = 0
ON_THE_AVERAGE = 1


class Way:
    """A way of trying some that are left; what it tries first is None where it's done."""

    def __init__(self, tries, if_good, if_bad, costs):
        self.tries = tries
        self.if_good = if_good
        self.if_bad = if_bad
        self.costs = costs


class BestWays:
    """The best ways of one kind. Different tries often leave the same ones: each such way is made once."""

    def __init__(self, changes, kind):
        self.changes = changes
        self.kind = kind
        self.known = {}

    def best_of(self, left):
        key = tuple(left)
        if key not in self.known:
            self.known[key] = self.least_costly(left)
        return self.known[key]

    def least_costly(self, left):
        ways = [self.beginning_with(c, left) for c in telling_changes(self.changes, left)]
        if len(ways) == 0:
            return way_that_is_done()
        # Of several that cost the least min gives the first, which tries the lowest change.
        return min(ways, key=lambda way: way.costs[self.kind])

    def beginning_with(self, c, left):
        if_good = self.best_of(left_after(self.changes, left, c, False))
        if_bad = self.best_of(left_after(self.changes, left, c, True))
        return way_that_tries(self.changes, left, c, if_good, if_bad)


def best_way(changes, left, kind):
    return BestWays(changes, kind).best_of(left)


def halving_way(changes, left):
    telling = telling_changes(changes, left)
    if len(telling) == 0:
        return way_that_is_done()
    # Of several with the largest lesser part max gives the first, which is the lowest change.
    c = max(telling, key=lambda one: lesser_part(changes, left, one))
    if_good = halving_way(changes, left_after(changes, left, c, False))
    if_bad = halving_way(changes, left_after(changes, left, c, True))
    return way_that_tries(changes, left, c, if_good, if_bad)


def way_that_is_done():
    return Way(None, None, None, (0, 0))


def way_that_tries(changes, left, c, if_good, if_bad):
    cost = changes[c].cost
    at_worst = cost + max(if_good.costs[AT_WORST], if_bad.costs[AT_WORST])
    behind = if_good.costs[ON_THE_AVERAGE] + if_bad.costs[ON_THE_AVERAGE]
    on_the_average = cost * weights_together(changes, left) + behind
    return Way(c, if_good, if_bad, (at_worst, on_the_average))


def telling_changes(changes, left):
    """The changes that can be tried and tell something, rising; they needn't be left themselves."""
    can_be_tried = [c for c in range(len(changes)) if changes[c].can_be_tried]
    return [c for c in can_be_tried if lesser_part(changes, left, c) > 0]


def lesser_part(changes, left, c):
    count_if_bad = len(left_after(changes, left, c, True))
    return min(count_if_bad, len(left) - count_if_bad)


def left_after(changes, left, c, is_bad):
    """Those left for which a try of c would tell what is_bad says."""
    made_upon = changes[c].made_upon
    return [one for one in left if (one in made_upon) == is_bad]


def weights_together(changes, left):
    return sum([changes[one].weight for one in left])


def way_in_numbers(way):
    if way.tries is None:
        return [0]
    return [way.tries + 1] + way_in_numbers(way.if_good) + way_in_numbers(way.if_bad)
