"""What becomes of people when a row is repeated again and again."""

from onetrain.errors import BadCount, Wide
from onetrain.marches import after, check_round
from onetrain.places import check_place, key

LONGEST_TAIL = 2000
MOST_ROUNDS = 10 ** 30


class Walk:
    """One person in repeated rounds: where they are now, and after one and two rounds more."""

    def __init__(self, row, place):
        self.repeated = row
        self.now = key(row.tree, place)
        self.soon = after(row, self.now)
        self.later = after(row, self.soon)

    def go(self):
        """Let one round pass."""
        self.now = self.soon
        self.soon = self.later
        self.later = after(self.repeated, self.later)

    def is_in_train(self):
        """Return whether the person is in the train now: it is what two rounds leave in place."""
        return self.now == self.later


def fate(row, place):
    """Return (tail, ring): how many rounds until a person is in the train, and then back where they were."""
    check_round(row)
    walk = Walk(row, place)
    for tail in range(LONGEST_TAIL + 1):
        if walk.is_in_train():
            return (tail, 1 if walk.now == walk.soon else 2)
        walk.go()
    raise Wide(LONGEST_TAIL + 1)


def far(row, place, rounds):
    """Return the key of the position of a person after so many rounds, also very many."""
    check_round(row)
    check_place(row.tree, place)
    if not 0 <= rounds <= MOST_ROUNDS:
        raise BadCount("rounds", rounds)
    walk = Walk(row, place)
    for done in range(LONGEST_TAIL + 1):
        if walk.is_in_train():
            return walk.now if (rounds - done) % 2 == 0 else walk.soon
        if done == rounds:
            return walk.now
        walk.go()
    raise Wide(LONGEST_TAIL + 1)


def meet(row, one, other):
    """Return the smallest number of rounds after which two people are at one position, or None."""
    check_round(row)
    ours = Walk(row, one)
    theirs = Walk(row, other)
    for rounds in range(LONGEST_TAIL + 1):
        if ours.now == theirs.now:
            return rounds
        # A round moves no two positions of the train to one.
        if ours.is_in_train() and theirs.is_in_train():
            return None
        ours.go()
        theirs.go()
    raise Wide(LONGEST_TAIL + 1)
