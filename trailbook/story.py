"""Stories: deeds that are done one after the other, and what is there behind them."""

from trailbook.errors import NoDesk, NoWork
from trailbook.runner import Runner


def done(runner, deed):
    if deed[0] == "start":
        return runner.start(deed[1], deed[2])
    if deed[0] == "go":
        return runner.go(deed[1], deed[2])
    if deed[0] == "late":
        return runner.late(deed[1])
    if deed[0] == "fill":
        return runner.fill(deed[1], deed[2], deed[3])
    if deed[0] == "stop":
        return runner.stop()
    return runner.wake()


def answer(runner, deed):
    # A story goes on behind a refusal, so that it is told as a text.
    try:
        return done(runner, deed)
    except NoDesk:
        return "no desk"
    except NoWork:
        return "no work"


def answers(stocks, bound, deeds):
    runner = Runner(stocks, bound)
    return [answer(runner, deed) for deed in deeds]


def runner_after(stocks, bound, deeds):
    runner = Runner(stocks, bound)
    for deed in deeds:
        answer(runner, deed)
    return runner


def trails_after(stocks, bound, deeds):
    return list(runner_after(stocks, bound, deeds).trails.items())


def things_at(desk):
    return [(thing, many) for thing, many in sorted(desk.stock.items()) if many > 0]


def things_after(stocks, bound, deeds):
    return [things_at(desk) for desk in runner_after(stocks, bound, deeds).desks]


def keys_after(stocks, bound, deeds):
    return [list(desk.fates.items()) for desk in runner_after(stocks, bound, deeds).desks]


def lost_after(stocks, bound, deeds):
    return runner_after(stocks, bound, deeds).lost
