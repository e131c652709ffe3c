"""Plans of very many people, and numbers all over them."""

import random

FAR = 10 ** 30


def far_plans():
    """Plans that bring ten to the thirtieth, or people without end."""
    yield [([7, 0, 10 ** 12, 3, None, 1, 10 ** 20, 2], FAR)]
    yield [([10 ** 29, 5], 10 ** 28), ([3, 0, 10 ** 27, 2], None)]
    yield [([FAR - 1], 1), ([5, 2, None, 10 ** 6], FAR - 1)]
    yield [([2 ** (90 - at) for at in range(at, at + 8)], 3 ** at + 8) for at in range(0, 56, 8)] + [([4, 1], None)]
    yield [([None], 3), ([10 ** 15, 1, 10 ** 9], 10 ** 29), ([0], 0), ([None, 4], None)]
    chance = random.Random(31)
    for _ in range(12):
        pieces = []
        for _ in range(chance.randint(1, 8)):
            turns = [chance.randint(0, 10 ** chance.randint(0, 30)) for _ in range(chance.randint(1, 8))]
            if chance.random() < 0.4:
                turns = sorted(turns, reverse=True)
            if chance.random() < 0.2:
                turns[chance.randrange(len(turns))] = None
            pieces.append((turns, chance.choice((0, 3, 10 ** 9, 10 ** 20, FAR // 8, chance.randint(1, FAR // 8)))))
        pieces[-1] = (pieces[-1][0], FAR // 8 if chance.random() < 0.5 else None)
        yield pieces


def some_below(many):
    """Numbers from 0 to less than so many: at both ends, and some between."""
    chance = random.Random(many)
    some = {0, 1, 2, 3, many // 3, many // 2, many - 3, many - 2, many - 1}
    some |= {chance.randrange(many) for _ in range(5)} if many > 0 else set()
    some |= {10 ** at for at in range(3, 30, 9)}
    return sorted(number for number in some if 0 <= number < many)
