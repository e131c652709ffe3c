"""Lines at work: people come and are served, deed by deed, and deeds are undone."""

from comersline.errors import NoHistory, NoPatience, NoPerson, Nobody, Nothing
from comersline.kinds import is_row, is_whole
from comersline.plans import is_patience, let_past


class Line:
    """A queue, empty at first, that keeps its deeds."""

    def __init__(self):
        # Who stands there, the front first, and the patience that each has left.
        self.people = []
        self.rest = []
        # How many went past each that ever came, by numbers.
        self.past = []
        # Who was served, with the patience it had left then.
        self.served = []
        self.deeds = []

    def come(self, patience):
        """Somebody comes; its number is told; NoPatience."""
        if not is_patience(patience):
            raise NoPatience("that is no patience")
        newcomer = len(self.past)
        place = let_past(self.rest)
        for person in self.people[place:]:
            self.past[person] += 1
        self.people.insert(place, newcomer)
        self.rest.insert(place, patience)
        self.past.append(0)
        self.deeds.append(("come", patience))
        return newcomer

    def serve(self):
        """The front is served and stands there no more; its number is told; Nobody."""
        if not self.people:
            raise Nobody("nobody stands there")
        person = self.people.pop(0)
        self.served.append((person, self.rest.pop(0)))
        self.deeds.append(("serve",))
        return person

    def undo(self):
        """The last deed that is not undone is undone; Nothing."""
        if not self.deeds:
            raise Nothing("no deed is left")
        deed = self.deeds.pop()
        if deed[0] == "come":
            self.take_newcomer()
        else:
            person, patience = self.served.pop()
            self.people.insert(0, person)
            self.rest.insert(0, patience)

    def take_newcomer(self):
        """The last one that came is as if it had not come: those behind it are whom it went past."""
        self.past.pop()
        place = self.people.index(len(self.past))
        del self.people[place]
        del self.rest[place]
        for behind in range(place, len(self.people)):
            self.past[self.people[behind]] -= 1
            if self.rest[behind] is not None:
                self.rest[behind] += 1

    def queue(self):
        """Who stands there, the front first."""
        return list(self.people)

    def left(self):
        """The patience that each has left, the front first."""
        return list(self.rest)

    def went_past(self, person):
        """How many went past a person, while it stood, that ever came; NoPerson."""
        if not is_whole(person) or not 0 <= person < len(self.past):
            raise NoPerson("nobody with that number has come")
        return self.past[person]

    def history(self):
        """The deeds that are not undone, tuples ("come", patience) and ("serve",)."""
        return list(self.deeds)

    def __len__(self):
        """How many stand."""
        return len(self.people)


def is_deed(thing, word, many):
    """Whether it is a list or a tuple of so many things, of which the first is a word."""
    return is_row(thing) and len(thing) == many and isinstance(thing[0], str) and thing[0] == word


def is_coming(thing):
    """Whether it is the deed that somebody comes."""
    return is_deed(thing, "come", 2) and is_patience(thing[1])


def is_history(thing):
    """Whether anything is a list of deeds that can be done one after the other on an empty line."""
    if not is_row(thing):
        return False
    standing = 0
    for deed in thing:
        if is_coming(deed):
            standing += 1
        elif is_deed(deed, "serve", 1) and standing > 0:
            standing -= 1
        else:
            return False
    return True


def line_of(history):
    """A Line told anew by a history; NoHistory."""
    if not is_history(history):
        raise NoHistory("that is no list of deeds that can be done")
    line = Line()
    for deed in history:
        if is_coming(deed):
            line.come(deed[1])
        else:
            line.serve()
    return line
