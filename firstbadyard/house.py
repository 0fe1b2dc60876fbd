"""One house: its changes, which of them can still be the one that broke it, and what is to be tried."""

from firstbadyard.ways import AT_WORST, ON_THE_AVERAGE, best_way, halving_way, left_after
from firstbadyard.ways import way_in_numbers, weights_together

MOST_CHANGES = 7
LARGEST_COST = 10000
LARGEST_WEIGHT = 10000

NOT_IN_RANGE = -1
NO_SUCH_CHANGE = -2
SOMETHING_FOUND = -3
CANNOT_BE_TRIED = -4
NONE_WOULD_BE_LEFT = -6
NO_MORE_ROOM = -7


def numbers_in_range(cost, weight, tried):
    return 1 <= cost <= LARGEST_COST and weight <= LARGEST_WEIGHT and tried <= 1


def is_kind(kind):
    return kind == AT_WORST or kind == ON_THE_AVERAGE


class Change:
    def __init__(self, cost, weight, can_be_tried, made_upon):
        self.cost = cost
        self.weight = weight
        self.can_be_tried = can_be_tried
        self.made_upon = made_upon


class House:
    """Each call is a method that gives back the numbers answered; a refusal changes nothing."""

    def __init__(self):
        self.told = []
        self.still_left = []
        self.anything_found = False

    def begins(self):
        self.told = []
        self.still_left = []
        self.anything_found = False
        return [0]

    def change(self, cost, weight, tried, parents):
        refusal = self.refusal_of_change(cost, weight, tried, parents)
        if refusal is not None:
            return [refusal]
        number = len(self.told)
        made_upon = self.upon_through(parents) + [number]
        self.told.append(Change(cost, weight, tried == 1, made_upon))
        # Changes are told only while nothing has been found, so a new one can always be the one.
        self.still_left.append(number)
        return [number]

    def found(self, c, bad):
        if not self.is_told(c):
            return [NO_SUCH_CHANGE]
        if not self.told[c].can_be_tried:
            return [CANNOT_BE_TRIED]
        left_then = left_after(self.told, self.still_left, c, bad != 0)
        if len(left_then) == 0:
            return [NONE_WOULD_BE_LEFT]
        self.still_left = left_then
        self.anything_found = True
        return [len(left_then)] + left_then

    def left(self):
        weights = weights_together(self.told, self.still_left)
        return [len(self.still_left)] + self.still_left + [weights]

    def best(self, kind):
        if not is_kind(kind):
            return [NOT_IN_RANGE]
        way = best_way(self.told, self.still_left, kind)
        if way.tries is None:
            return [0]
        return [1, way.tries, way.costs[kind]]

    def way(self, kind):
        if not is_kind(kind):
            return [NOT_IN_RANGE]
        way = best_way(self.told, self.still_left, kind)
        return [way.costs[kind]] + way_in_numbers(way)

    def half(self):
        way = halving_way(self.told, self.still_left)
        if way.tries is None:
            return [0]
        return [1, way.tries, way.costs[AT_WORST], way.costs[ON_THE_AVERAGE]]

    def upon(self, c):
        if not self.is_told(c):
            return [NO_SUCH_CHANGE]
        made_upon = self.told[c].made_upon
        return [len(made_upon)] + made_upon

    def refusal_of_change(self, cost, weight, tried, parents):
        # The order is the document's: of several refusals the one told first is answered.
        if not numbers_in_range(cost, weight, tried):
            return NOT_IN_RANGE
        if len(self.told) == MOST_CHANGES:
            return NO_MORE_ROOM
        if self.anything_found:
            return SOMETHING_FOUND
        if not all([self.is_told(parent) for parent in parents]):
            return NO_SUCH_CHANGE
        return None

    def is_told(self, c):
        return c < len(self.told)

    def upon_through(self, parents):
        """The changes that some parent is made upon, rising, each once."""
        return [one for one in range(len(self.told)) if self.some_made_upon(parents, one)]

    def some_made_upon(self, changes, one):
        return any([one in self.told[c].made_upon for c in changes])
