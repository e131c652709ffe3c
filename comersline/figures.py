"""Whole numbers as texts: by figures without noughts ahead, and words that stand for None."""

# Python takes and tells only so many figures at once; long numbers go part by part.
PART_LENGTH = 50
PART_WORTH = 10 ** 50


def is_number(word):
    """Whether a word is a number by figures without noughts ahead."""
    return word.isascii() and word.isdigit() and (word == "0" or word[0] != "0")


def number_by(figures):
    """The number that figures tell, however many."""
    head = len(figures) % PART_LENGTH
    number = int("0" + figures[:head])
    for at in range(head, len(figures), PART_LENGTH):
        number = number * PART_WORTH + int(figures[at:at + PART_LENGTH])
    return number


def figures_of(number):
    """The figures of a number, however great."""
    parts = []
    while number >= PART_WORTH:
        number, part = divmod(number, PART_WORTH)
        parts.append(str(part).zfill(PART_LENGTH))
    parts.append(str(number))
    return "".join(reversed(parts))


def is_number_or(word, none):
    """Whether a word is a number, or the word that stands for None."""
    return word == none or is_number(word)


def number_or(word, none):
    """The number that a word tells, or None by the word that stands for it."""
    return None if word == none else number_by(word)


def figures_or(number, none):
    """The figures of a number, or the word that stands for None."""
    return none if number is None else figures_of(number)
