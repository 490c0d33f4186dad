"""Desks: each has some of several things and keeps what became of each key.

A request is a tuple (word, work, step, thing, many), its key (work, step).
"""


class Desk:
    def __init__(self, things):
        # A copy, for the dict is the caller's: who changes it later must
        # change nothing here, and requests must not change it.
        self.stock = dict(things)
        self.fates = {}

    def has(self, thing):
        return self.stock.get(thing, 0)

    def told(self, request):
        key = (request[1], request[2])
        if request[0] == "do":
            return self.do(key, request[3], request[4])
        return self.undo(key, request[3], request[4])

    def do(self, key, thing, many):
        if key not in self.fates:
            self.fates[key] = self.take(thing, many)
        # A key that is undid is answered no: its do came too late.
        return "did" if self.fates[key] == "did" else "no"

    def take(self, thing, many):
        if self.has(thing) < many:
            return "no"
        self.stock[thing] = self.has(thing) - many
        return "did"

    def put(self, thing, many):
        self.stock[thing] = self.has(thing) + many

    def undo(self, key, thing, many):
        if self.fates.get(key) == "did":
            self.put(thing, many)
        # Kept even for a key that never came, so that its late do takes nothing.
        self.fates[key] = "undid"
        return "undid"


def told_all(desk, requests):
    return [desk.told(request) for request in requests]
