"""One house: its changes, and which of them can still be the one that broke it."""

MOST_CHANGES = 7
LARGEST_COST = 10000
LARGEST_WEIGHT = 10000

NOT_IN_RANGE = -1
NO_SUCH_CHANGE = -2
SOMETHING_FOUND = -3
CANNOT_BE_TRIED = -4
NONE_WOULD_BE_LEFT = -6
NO_MORE_ROOM = -7


def numbers_in_range(cost, weight, tried):
    return 1 <= cost <= LARGEST_COST and weight <= LARGEST_WEIGHT and tried <= 1


class Change:
    def __init__(self, cost, weight, can_be_tried, made_upon):
        self.cost = cost
        self.weight = weight
        self.can_be_tried = can_be_tried
        self.made_upon = made_upon


class House:
    """Each call is a method that gives back the numbers answered; a refusal changes nothing."""

    def __init__(self):
        self.told = []
        self.still_left = []
        self.anything_found = False

    def begins(self):
        self.told = []
        self.still_left = []
        self.anything_found = False
        return [0]

    def change(self, cost, weight, tried, parents):
        refusal = self.refusal_of_change(cost, weight, tried, parents)
        if refusal is not None:
            return [refusal]
        number = len(self.told)
        made_upon = self.upon_through(parents) + [number]
        self.told.append(Change(cost, weight, tried == 1, made_upon))
        # Changes are told only while nothing has been found, so a new one can always be the one.
        self.still_left.append(number)
        return [number]

    def found(self, c, bad):
        if not self.is_told(c):
            return [NO_SUCH_CHANGE]
        if not self.told[c].can_be_tried:
            return [CANNOT_BE_TRIED]
        left_then = self.left_after(c, bad != 0)
        if len(left_then) == 0:
            return [NONE_WOULD_BE_LEFT]
        self.still_left = left_then
        self.anything_found = True
        return [len(left_then)] + left_then

    def left(self):
        weights_together = sum([self.told[one].weight for one in self.still_left])
        return [len(self.still_left)] + self.still_left + [weights_together]

    def refusal_of_change(self, cost, weight, tried, parents):
        # The order is the document's: of several refusals the one told first is answered.
        if not numbers_in_range(cost, weight, tried):
            return NOT_IN_RANGE
        if len(self.told) == MOST_CHANGES:
            return NO_MORE_ROOM
        if self.anything_found:
            return SOMETHING_FOUND
        if not all([self.is_told(parent) for parent in parents]):
            return NO_SUCH_CHANGE
        return None

    def is_told(self, c):
        return c < len(self.told)

    def upon_through(self, parents):
        """The changes that some parent is made upon, rising, each once."""
        return [one for one in range(len(self.told)) if self.some_made_upon(parents, one)]

    def some_made_upon(self, changes, one):
        return any([one in self.told[c].made_upon for c in changes])

    def left_after(self, c, is_bad):
        """Those left for which a try of c would tell what is_bad says."""
        made_upon = self.told[c].made_upon
        return [one for one in self.still_left if (one in made_upon) == is_bad]
