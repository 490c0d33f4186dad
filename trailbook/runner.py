"""The runner: makes attempts for its works at the desks and writes their trails.

An attempt's luck is ok, deaf or lost. What is sent is a pair of a desk's
number and a request.
"""

from trailbook.desks import Desk
from trailbook.errors import NoDesk, NoWork
from trailbook.trails import next_of


class Runner:
    def __init__(self, stocks, bound):
        self.desks = [Desk(things) for things in stocks]
        self.bound = bound
        self.up = True
        self.works = {}
        self.trails = {}
        # By work, how often in a row its step to be done was tried in vain.
        self.tries = {}
        self.lost = []

    def desk_at(self, number):
        # Below nought Python would count the desks from behind.
        if number < 0 or number >= len(self.desks):
            raise NoDesk("there is no desk of that number")
        return self.desks[number]

    def start(self, name, steps):
        # Ahead of the name: a desk that there isn't is told in any case.
        for step in steps:
            self.desk_at(step[0])
        if name in self.works:
            return False
        # A copy, for the list is the caller's.
        self.works[name] = list(steps)
        self.trails[name] = []
        return True

    def go(self, name, luck):
        if not self.up:
            return "stopped"
        if name not in self.works:
            raise NoWork("there is no work of that name")
        coming = next_of(len(self.works[name]), self.trails[name])
        if coming[0] == "end":
            return "ended"
        return self.attempt(name, coming, luck)

    def attempt(self, name, coming, luck):
        word = self.send(self.request_for(name, coming), luck)
        if word is None:
            word = self.unheard(name, coming)
        if word is None:
            return None
        return self.written(name, (word, coming[1]))

    def request_for(self, name, coming):
        step = self.works[name][coming[1]]
        return (step[0], (coming[0], name, coming[1], step[1], step[2]))

    def send(self, sent, luck):
        if luck == "lost":
            self.lost.append(sent)
            return None
        word = self.arrive(sent)
        return word if luck == "ok" else None

    def arrive(self, sent):
        return self.desk_at(sent[0]).told(sent[1])

    def unheard(self, name, coming):
        # An undo is never given up: only its answer makes sure of the step.
        if coming[0] == "undo":
            return None
        self.tries[name] = self.tries.get(name, 0) + 1
        return "unsure" if self.tries[name] >= self.bound else None

    def written(self, name, entry):
        # Another step comes next, and its attempts are counted anew.
        self.tries[name] = 0
        self.trails[name].append(entry)
        return entry

    def late(self, which):
        if which < 0 or which >= len(self.lost):
            return None
        return self.arrive(self.lost[which])

    def fill(self, number, thing, many):
        self.desk_at(number).put(thing, many)
        return True

    def stop(self):
        if not self.up:
            return False
        self.up = False
        self.tries = {}
        return True

    def wake(self):
        if self.up:
            return False
        self.up = True
        return True
