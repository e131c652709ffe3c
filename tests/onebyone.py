"""What the tests hold the program against: people who come one by one, as point 6 tells."""

import itertools
import random


def patiences_of(plan, many):
    """The patiences of the first so many that come by a plan, or of all, where they are fewer."""
    told = []
    for turns, brings in plan:
        places = itertools.count() if brings is None else range(brings)
        for place in places:
            if len(told) == many:
                return told
            told.append(turns[place % len(turns)])
    return told


class Crowd:
    """People in a queue, the front first; nobody is skipped, each step is done."""

    def __init__(self):
        self.people = []
        self.left = {}
        self.past = {}

    def come(self, patience):
        newcomer = len(self.people)
        behind = []
        while self.people and self.left[self.people[-1]] != 0:
            one = self.people.pop()
            if self.left[one] is not None:
                self.left[one] -= 1
            self.past[one].append(newcomer)
            behind.append(one)
        self.people.append(newcomer)
        self.people.extend(reversed(behind))
        self.left[newcomer] = patience
        self.past[newcomer] = []

    def lefts(self):
        return [self.left[one] for one in self.people]

    def refusers(self):
        """Those that have no patience left, the front first."""
        return [one for one in self.people if self.left[one] == 0]

    def unsafe(self):
        """Those past whom the next newcomer would go, from the front on."""
        at = len(self.people)
        while at > 0 and self.left[self.people[at - 1]] != 0:
            at -= 1
        return self.people[at:]


def crowd_of(patiences):
    crowd = Crowd()
    for patience in patiences:
        crowd.come(patience)
    return crowd


def lasts_of(patiences):
    """The last of each, None where it isn't safe when all have come: by the rule that
    whoever has none left, and all ahead of it, are left by the newcomers."""
    lasts = [None] * len(patiences)
    unsafe = []
    for newcomer, patience in enumerate(patiences):
        unsafe.append((newcomer, None if patience is None else newcomer + patience))
        done = [at for at, (_, end) in enumerate(unsafe) if end == newcomer]
        if done:
            for one, _ in unsafe[done[0]:]:
                lasts[one] = newcomer
            del unsafe[done[0]:]
    return lasts


def small_plans():
    """Every plan of one piece of a few, and many of two and three."""
    some = (0, 1, 2, 3, None)
    for length in (1, 2, 3):
        for turns in itertools.product(some, repeat=length):
            yield [(list(turns), 9)]
            yield [(list(turns), None)]
    chance = random.Random(11)
    for _ in range(400):
        pieces = []
        for _ in range(chance.randint(1, 8)):
            turns = [chance.choice((0, 1, 2, 3, 5, 8, 13, None)) for _ in range(chance.randint(1, 8))]
            pieces.append((turns, chance.choice((0, 1, 2, 3, 4, 7))))
        if chance.random() < 0.5:
            pieces[-1] = (pieces[-1][0], None)
        yield pieces


def larger_plans(many):
    """Plans of pieces that go round often, with patiences that reach over whole pieces."""
    chance = random.Random(23)
    for _ in range(many):
        reach = chance.choice((3, 10, 60, 300))
        pieces = []
        for _ in range(chance.randint(1, 8)):
            turns = [chance.randint(0, reach) for _ in range(chance.randint(1, 8))]
            if chance.random() < 0.2:
                turns[chance.randrange(len(turns))] = None
            pieces.append((turns, chance.choice((0, 5, 40, 150))))
        if chance.random() < 0.5:
            pieces[-1] = (pieces[-1][0], None)
        yield pieces
