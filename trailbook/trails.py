"""Trails: what the runner knows of a work, and what follows from it.

A trail is a list of entries (word, step), new ones behind; the words are
did, no, unsure and undid. What comes next is a pair: ("do", step),
("undo", step), ("end", "done") or ("end", "undone").
"""

from trailbook.errors import NoTrail

FITTING_WORDS = {"do": ("did", "no", "unsure"), "undo": ("undid",), "end": ()}


def do_or_done(many, step):
    if step < many:
        return ("do", step)
    return ("end", "done")


def undo_or_undone(step):
    if step >= 0:
        return ("undo", step)
    return ("end", "undone")


def next_behind(many, word, step):
    if word == "did":
        return do_or_done(many, step + 1)
    # An unsure step may have been done, so it is undone itself; a step that
    # is no or undid takes nothing any more, so the one ahead of it is next.
    if word == "unsure":
        return undo_or_undone(step)
    return undo_or_undone(step - 1)


def next_of(many, trail):
    if not trail:
        return do_or_done(many, 0)
    # The last entry is enough: a trail that has turned back never has a did
    # behind that, so a did at its end means that all ahead of it are did.
    last = trail[-1]
    return next_behind(many, last[0], last[1])


def can_stand(entry, coming):
    return entry[0] in FITTING_WORDS[coming[0]] and entry[1] == coming[1]


def check_trail(many, trail):
    coming = next_of(many, [])
    for place, entry in enumerate(trail):
        if not can_stand(entry, coming):
            raise NoTrail(f"entry {place} can't stand behind those ahead of it")
        coming = next_behind(many, entry[0], entry[1])


def standing(many, trail):
    check_trail(many, trail)
    return [step for word, step in trail if word == "did" and ("undid", step) not in trail]
