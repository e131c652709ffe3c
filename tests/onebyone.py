"""What the tests hold the program against: people who come one by one, as points 6 and 18 tell."""

import itertools
import random


def patiences_of(plan, many):
    """The patiences of the first so many that come by a plan, or of all, where they are fewer."""
    told = []
    for turns, brings in plan:
        places = itertools.count() if brings is None else range(brings)
        for place in places:
            if len(told) == many:
                return told
            told.append(turns[place % len(turns)])
    return told


class Crowd:
    """People in a queue, the front first; nobody is skipped, each step is done."""

    def __init__(self):
        self.people = []
        self.left = {}
        self.past = {}

    def come(self, patience):
        newcomer = len(self.past)
        behind = []
        while self.people and self.left[self.people[-1]] != 0:
            one = self.people.pop()
            if self.left[one] is not None:
                self.left[one] -= 1
            self.past[one].append(newcomer)
            behind.append(one)
        self.people.append(newcomer)
        self.people.extend(reversed(behind))
        self.left[newcomer] = patience
        self.past[newcomer] = []

    def serve(self):
        return self.people.pop(0)

    def lefts(self):
        return [self.left[one] for one in self.people]

    def refusers(self):
        """Those that have no patience left, the front first."""
        return [one for one in self.people if self.left[one] == 0]

    def unsafe(self):
        """Those past whom the next newcomer would go, from the front on."""
        at = len(self.people)
        while at > 0 and self.left[self.people[at - 1]] != 0:
            at -= 1
        return self.people[at:]


def crowd_of(patiences):
    crowd = Crowd()
    for patience in patiences:
        crowd.come(patience)
    return crowd


def crowd_after(deeds):
    crowd = Crowd()
    for word, *patience in deeds:
        if word == "come":
            crowd.come(*patience)
        else:
            crowd.serve()
    return crowd


def lasts_of(patiences):
    """The last of each, None where it isn't safe when all have come: by the rule that
    whoever has none left, and all ahead of it, are left by the newcomers."""
    lasts = [None] * len(patiences)
    unsafe = []
    for newcomer, patience in enumerate(patiences):
        unsafe.append((newcomer, None if patience is None else newcomer + patience))
        done = [at for at, (_, end) in enumerate(unsafe) if end == newcomer]
        if done:
            for one, _ in unsafe[done[0]:]:
                lasts[one] = newcomer
            del unsafe[done[0]:]
    return lasts


def small_plans():
    """Every plan of one piece of a few, and many of two and three."""
    some = (0, 1, 2, 3, None)
    for length in (1, 2, 3):
        for turns in itertools.product(some, repeat=length):
            yield [(list(turns), 9)]
            yield [(list(turns), None)]
    chance = random.Random(11)
    for _ in range(400):
        pieces = []
        for _ in range(chance.randint(1, 8)):
            turns = [chance.choice((0, 1, 2, 3, 5, 8, 13, None)) for _ in range(chance.randint(1, 8))]
            pieces.append((turns, chance.choice((0, 1, 2, 3, 4, 7))))
        if chance.random() < 0.5:
            pieces[-1] = (pieces[-1][0], None)
        yield pieces


def larger_plans(many):
    """Plans of pieces that go round often, with patiences that reach over whole pieces."""
    chance = random.Random(23)
    for _ in range(many):
        reach = chance.choice((3, 10, 60, 300))
        pieces = []
        for _ in range(chance.randint(1, 8)):
            turns = [chance.randint(0, reach) for _ in range(chance.randint(1, 8))]
            if chance.random() < 0.2:
                turns[chance.randrange(len(turns))] = None
            pieces.append((turns, chance.choice((0, 5, 40, 150))))
        if chance.random() < 0.5:
            pieces[-1] = (pieces[-1][0], None)
        yield pieces


def brought_by(plan):
    """How many come by a plan, or None."""
    return None if plan[-1][1] is None else sum(many for _, many in plan)


def windows_by_hops(plan, many):
    """The windows around each of the first so many, by hops from opener to opener, as point 10
    tells: the outermost first, its own the last."""
    patiences = patiences_of(plan, many)
    brings = brought_by(plan)
    around = {}

    def hop_along(person, bound, outer):
        while person < len(patiences) and (bound is None or person <= bound):
            patience = patiences[person]
            around[person] = list(outer)
            if patience is None or (bound is not None and person + patience > bound):
                person += 1
                continue
            around[person].append((person, person + patience))
            hop_along(person + 1, person + patience, around[person])
            person += patience + 1

    hop_along(0, None if brings is None else brings - 1, [])
    return [around[person] for person in range(len(patiences))]


def least_by_each(plan, many):
    """The least plan, by the greatest number that goes past each of the first so many."""
    patiences = patiences_of(plan, many)
    ends = plan[-1][1] is not None
    lasts = lasts_of(patiences)
    reach = max([patience for patience in patiences if patience is not None], default=0)
    told, person = [], 0
    for turns, brings in plan:
        used = [0] * len(turns)
        for place in itertools.count():
            # In a plan without end one whose last may just be too far to be seen is left out.
            if place == brings or person >= (len(patiences) if ends else len(patiences) - reach - 1):
                break
            last = len(patiences) - 1 if ends and lasts[person] is None else lasts[person]
            turn = place % len(turns)
            used[turn] = None if last is None or used[turn] is None else max(used[turn], last - person)
            person += 1
        told.append((used, brings))
    return told


def greatest_of(plan):
    return max([patience for turns, _ in plan for patience in turns if patience is not None], default=0)
