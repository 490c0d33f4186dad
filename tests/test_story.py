"""Stories: each deed with its answer, what is there behind them, and points 1 and 14."""

import copy
import itertools
import random
import unittest

from trailbook.story import answers, keys_after, lost_after, things_after, trails_after
from trailbook.trails import check_trail, next_of

HUGE = 10 ** 100 - 1
STOP = ("stop",)
WAKE = ("wake",)
ASKED = (answers, trails_after, things_after, keys_after, lost_after)


def go(work, *lucks):
    return [("go", work, luck) for luck in lucks]


def all_asked(stocks, bound, deeds):
    return [asked(stocks, bound, deeds) for asked in ASKED]


class StoryCase(unittest.TestCase):
    def check_answers(self, stocks, bound, deeds, wanted):
        got = answers(stocks, bound, deeds)
        self.assertEqual(got, wanted)
        # True and 1 are equal, so that the kinds are asked too.
        self.assertEqual([type(each) for each in got], [type(each) for each in wanted])

    def check_same_state(self, stocks, bound, deeds, others):
        for asked in ASKED[1:]:
            self.assertEqual(asked(stocks, bound, deeds), asked(stocks, bound, others), asked.__name__)


class Start(StoryCase):
    stocks = [{"rope": 5}, {"nail": 5}]

    def test_anew(self):
        deeds = [("start", "hut", [(0, "rope", 1)]), ("start", "barn", [(1, "nail", 1), (0, "rope", 1)])]
        self.check_answers(self.stocks, 1, deeds, [True, True])
        self.assertEqual(trails_after(self.stocks, 1, deeds), [("hut", []), ("barn", [])])
        self.assertEqual(things_after(self.stocks, 1, deeds), [[("rope", 5)], [("nail", 5)]])
        self.assertEqual(keys_after(self.stocks, 1, deeds), [[], []])

    def test_of_a_name_that_there_is(self):
        first = ("start", "hut", [(0, "rope", 1)])
        for steps in ([(0, "rope", 1)], [(1, "nail", 2), (0, "rope", 2)], []):
            deeds = [first, ("start", "hut", steps)]
            self.check_answers(self.stocks, 1, deeds, [True, False])
            self.check_same_state(self.stocks, 1, deeds, [first])
            # The steps are still those of the first.
            self.check_answers(self.stocks, 1, deeds + go("hut", "ok", "ok"), [True, False, ("did", 0), "ended"])
            self.assertEqual(things_after(self.stocks, 1, deeds + go("hut", "ok")), [[("rope", 4)], [("nail", 5)]])

    def test_of_a_name_that_there_is_leaves_the_trail(self):
        deeds = [("start", "hut", [(0, "rope", 1)] * 2)] + go("hut", "ok")
        again = deeds + [("start", "hut", [(0, "rope", 1)] * 2)]
        self.assertEqual(answers(self.stocks, 1, again)[-1], False)
        self.check_same_state(self.stocks, 1, again, deeds)

    def test_of_a_name_whose_work_has_ended(self):
        for stocks, entry in (([{"rope": 1}], ("did", 0)), ([{}], ("no", 0))):
            deeds = [("start", "hut", [(0, "rope", 1)])] + go("hut", "ok")
            deeds += [("start", "hut", [(0, "rope", 1)])] + go("hut", "ok")
            self.check_answers(stocks, 1, deeds, [True, entry, False, "ended"])

    def test_with_a_step_at_a_desk_that_there_is_not(self):
        good = [(0, "rope", 1), (1, "nail", 1), (0, "rope", 1)]
        for desk in (-1, -2, -3, 2, 3, 20, HUGE, -HUGE):
            for place in range(len(good) + 1):
                steps = good[:place] + [(desk, "rope", 1)] + good[place:]
                with self.subTest(steps=steps):
                    deeds = [("start", "hut", steps)]
                    self.check_answers(self.stocks, 1, deeds + go("hut", "ok"), ["no desk", "no work"])
                    self.check_same_state(self.stocks, 1, deeds, [])

    def test_at_no_desk_is_told_ahead_of_a_name_that_there_is(self):
        ahead = [("start", "hut", [(0, "rope", 1)])] + go("hut", "ok")
        for desk in (-1, 2):
            deeds = ahead + [("start", "hut", [(0, "rope", 1), (desk, "rope", 1)])]
            self.check_answers(self.stocks, 1, deeds, [True, ("did", 0), "no desk"])
            self.check_same_state(self.stocks, 1, deeds, ahead)

    def test_the_name_is_free_behind_no_desk(self):
        deeds = [("start", "hut", [(2, "rope", 1)]), ("start", "hut", [(0, "rope", 1)])] + go("hut", "ok")
        self.check_answers(self.stocks, 1, deeds, ["no desk", True, ("did", 0)])

    def test_at_the_last_desk(self):
        stocks = [{} for each in range(19)] + [{"rope": 1}]
        deeds = [("start", "hut", [(19, "rope", 1)]), ("start", "barn", [(20, "rope", 1)])] + go("hut", "ok")
        self.check_answers(stocks, 1, deeds, [True, "no desk", ("did", 0)])

    def test_while_stopped(self):
        deeds = [
            STOP,
            ("start", "hut", [(0, "rope", 1)]),
            ("start", "hut", [(0, "rope", 1)]),
            ("start", "barn", [(2, "rope", 1)]),
            ("start", "hut", [(-1, "rope", 1)]),
            WAKE,
        ] + go("hut", "ok") + go("barn", "ok")
        wanted = [True, True, False, "no desk", "no desk", True, ("did", 0), "no work"]
        self.check_answers(self.stocks, 1, deeds, wanted)

    def test_with_no_steps(self):
        deeds = [("start", "hut", []), ("start", "hut", [])] + go("hut", "ok", "deaf", "lost")
        for stocks in (self.stocks, []):
            self.check_answers(stocks, 1, deeds, [True, False, "ended", "ended", "ended"])
            self.assertEqual(trails_after(stocks, 1, deeds), [("hut", [])])
            self.assertEqual(lost_after(stocks, 1, deeds), [])

    def test_without_any_desk(self):
        deeds = [("start", "hut", [(0, "rope", 1)]), ("start", "barn", [(-1, "rope", 1)])]
        self.check_answers([], 1, deeds, ["no desk", "no desk"])

    def test_the_empty_text_as_a_name(self):
        deeds = go("", "ok") + [("start", "", [(0, "rope", 1)]), ("start", "", [])] + go("", "ok", "ok")
        self.check_answers(self.stocks, 1, deeds, ["no work", True, False, ("did", 0), "ended"])
        self.assertEqual(trails_after(self.stocks, 1, deeds), [("", [("did", 0)])])
        self.assertEqual(keys_after(self.stocks, 1, deeds), [[(("", 0), "did")], []])

    def test_names_that_differ_by_a_capital_or_a_blank(self):
        deeds = [("start", name, [(0, "rope", 1)]) for name in ("hut", "Hut", "hut ", " hut")]
        self.check_answers(self.stocks, 1, deeds, [True] * 4)

    def test_sixty_steps_and_somewhat_more(self):
        for many in (60, 80):
            deeds = [("start", "hut", [(0, "rope", 1)] * many)] + go("hut", *["ok"] * (many + 1))
            wanted = [True] + [("did", step) for step in range(many)] + ["ended"]
            self.check_answers([{"rope": many + 2}], 1, deeds, wanted)
            self.assertEqual(things_after([{"rope": many + 2}], 1, deeds), [[("rope", 2)]])


class Go(StoryCase):
    stocks = [{"rope": 5}]
    hut = ("start", "hut", [(0, "rope", 3)])

    def check_refused(self, ahead, work, wanted):
        for luck in ("ok", "deaf", "lost"):
            deeds = ahead + go(work, luck)
            with self.subTest(deeds=deeds):
                self.assertEqual(answers(self.stocks, 1, deeds)[-1], wanted)
                self.check_same_state(self.stocks, 1, deeds, ahead)

    def test_while_stopped(self):
        self.check_refused([self.hut, STOP], "hut", "stopped")

    def test_while_stopped_is_told_ahead_of_no_work(self):
        self.check_refused([STOP], "hut", "stopped")
        self.check_refused([self.hut, STOP], "barn", "stopped")

    def test_while_stopped_is_told_ahead_of_ended(self):
        self.check_refused([self.hut] + go("hut", "ok") + [STOP], "hut", "stopped")
        self.check_refused([("start", "hut", []), STOP], "hut", "stopped")

    def test_for_no_work(self):
        self.check_refused([], "hut", "no work")
        self.check_refused([self.hut], "barn", "no work")
        self.check_refused([self.hut], "", "no work")
        self.check_refused([self.hut], "Hut", "no work")
        self.check_refused([self.hut, STOP, WAKE], "barn", "no work")
        self.check_refused([("start", "barn", [(1, "rope", 1)])], "barn", "no work")

    def test_for_one_that_has_ended_as_done(self):
        self.check_refused([self.hut] + go("hut", "ok"), "hut", "ended")
        self.check_refused([self.hut] + go("hut", "ok") + [STOP, WAKE], "hut", "ended")

    def test_for_one_that_has_ended_as_undone(self):
        self.check_refused([self.hut] + go("hut", "lost", "ok"), "hut", "ended")
        self.check_refused([("start", "hut", [(0, "rope", 6)])] + go("hut", "ok"), "hut", "ended")

    def test_for_one_without_steps(self):
        self.check_refused([("start", "hut", [])], "hut", "ended")

    def test_again_behind_a_coming_up(self):
        deeds = [self.hut, STOP] + go("hut", "ok") + [WAKE] + go("hut", "ok")
        self.check_answers(self.stocks, 1, deeds, [True, True, "stopped", True, ("did", 0)])

    def test_works_take_turns(self):
        deeds = [self.hut, ("start", "barn", [(0, "rope", 3)])] + go("barn", "ok") + go("hut", "ok")
        self.check_answers(self.stocks, 1, deeds, [True, True, ("did", 0), ("no", 0)])
        self.assertEqual(keys_after(self.stocks, 1, deeds), [[(("barn", 0), "did"), (("hut", 0), "no")]])

    def test_a_step_of_nought(self):
        deeds = [("start", "hut", [(0, "rope", 0), (0, "nail", 0)])] + go("hut", "ok", "ok", "ok")
        self.check_answers(self.stocks, 1, deeds, [True, ("did", 0), ("did", 1), "ended"])

    def test_numbers_of_a_hundred_figures(self):
        deeds = [("start", "hut", [(0, "rope", HUGE), (0, "rope", 1)])] + go("hut", "ok", "ok", "ok")
        self.check_answers([{"rope": HUGE}], 1, deeds, [True, ("did", 0), ("no", 1), ("undid", 0)])
        self.assertEqual(things_after([{"rope": HUGE}], 1, deeds[:2]), [[]])
        self.assertEqual(things_after([{"rope": HUGE}], 1, deeds), [[("rope", HUGE)]])


class Fill(StoryCase):
    stocks = [{"rope": 5}, {}]

    def check_fill(self, deeds, wanted):
        self.check_answers(self.stocks, 1, deeds, [True] * len(deeds))
        self.assertEqual(things_after(self.stocks, 1, deeds), wanted)

    def test_of_a_thing_that_the_desk_has(self):
        self.check_fill([("fill", 0, "rope", 3)], [[("rope", 8)], []])
        self.check_fill([("fill", 0, "rope", 3)] * 3, [[("rope", 14)], []])

    def test_of_one_it_does_not_have(self):
        self.check_fill([("fill", 0, "nail", 3)], [[("nail", 3), ("rope", 5)], []])
        self.check_fill([("fill", 1, "rope", 3)], [[("rope", 5)], [("rope", 3)]])

    def test_of_nought(self):
        self.check_fill([("fill", 0, "rope", 0)], [[("rope", 5)], []])
        self.check_fill([("fill", 1, "rope", 0)], [[("rope", 5)], []])

    def test_of_the_empty_text(self):
        self.check_fill([("fill", 1, "", 3), ("fill", 1, "", 1)], [[("rope", 5)], [("", 4)]])

    def test_of_a_hundred_figures(self):
        self.check_fill([("fill", 0, "rope", HUGE)], [[("rope", HUGE + 5)], []])

    def test_at_a_desk_that_there_is_not(self):
        for desk in (-1, -2, -3, 2, 3, HUGE, -HUGE):
            deeds = [("fill", desk, "rope", 3)]
            self.check_answers(self.stocks, 1, deeds, ["no desk"])
            self.check_same_state(self.stocks, 1, deeds, [])
        self.check_answers([], 1, [("fill", 0, "rope", 3), ("fill", -1, "rope", 3)], ["no desk", "no desk"])

    def test_while_stopped(self):
        deeds = [STOP, ("fill", 0, "rope", 3), ("fill", 2, "rope", 3)]
        self.check_answers(self.stocks, 1, deeds, [True, True, "no desk"])
        self.assertEqual(things_after(self.stocks, 1, deeds), [[("rope", 8)], []])

    def test_what_came_is_there_for_steps(self):
        deeds = [("start", "hut", [(0, "rope", 6)]), ("fill", 0, "rope", 1)] + go("hut", "ok")
        self.check_answers(self.stocks, 1, deeds, [True, True, ("did", 0)])
        self.assertEqual(things_after(self.stocks, 1, deeds), [[], []])


class StopAndWake(StoryCase):
    def test_stop_twice(self):
        self.check_answers([], 1, [STOP, STOP, STOP], [True, False, False])

    def test_wake_twice(self):
        self.check_answers([], 1, [STOP, WAKE, WAKE], [True, True, False])

    def test_the_runner_is_up_at_the_beginning(self):
        self.check_answers([], 1, [WAKE, WAKE, STOP], [False, False, True])

    def test_in_turn(self):
        deeds = [STOP, WAKE, STOP, STOP, WAKE, WAKE, STOP]
        self.check_answers([], 1, deeds, [True, True, True, False, True, False, True])


class Late(StoryCase):
    def test_what_is_answered_at_the_desk(self):
        stocks = [{"rope": 2}]
        deeds = [("start", name, [(0, "rope", 2)]) for name in ("hut", "barn")]
        deeds += go("hut", "lost") + go("barn", "lost", "ok", "lost")
        deeds += [("late", 0), ("late", 1), ("late", 2), ("late", 0)]
        wanted = [True, True, ("unsure", 0), ("unsure", 0), ("undid", 0), "ended", "did", "no", None, "did"]
        self.check_answers(stocks, 1, deeds, wanted)

    def test_of_an_undo(self):
        deeds = [("start", "hut", [(0, "rope", 2)])] + go("hut", "deaf", "lost") + [("late", 0), ("late", 1)]
        self.check_answers([{"rope": 2}], 1, deeds, [True, ("unsure", 0), None, "undid", None])

    def test_none_where_none_was_lost(self):
        self.check_answers([{"rope": 2}], 1, [("late", 0), STOP, ("late", 0), ("late", HUGE)], [None, True, None, None])


class Interface(StoryCase):
    def test_a_story_without_deeds(self):
        stocks = [{"rope": 5, "nail": 0}, {}]
        self.assertEqual(all_asked(stocks, 1, []), [[], [], [[("rope", 5)], []], [[], []], []])

    def test_a_story_without_desks_and_deeds(self):
        self.assertEqual(all_asked([], 1, []), [[], [], [], [], []])

    def test_desks_without_things(self):
        stocks = [{}, {}, {}]
        deeds = [("start", "hut", [(0, "rope", 0), (1, "rope", 1)])] + go("hut", "ok", "ok", "ok")
        self.check_answers(stocks, 1, deeds, [True, ("did", 0), ("no", 1), ("undid", 0)])
        self.assertEqual(things_after(stocks, 1, deeds), [[], [], []])
        self.assertEqual(keys_after(stocks, 1, deeds), [[(("hut", 0), "undid")], [(("hut", 1), "no")], []])

    def test_trails_in_the_order_in_which_the_works_were_started(self):
        deeds = [("start", name, [(0, "rope", 1)]) for name in ("m", "z", "a", "")]
        deeds += go("a", "ok") + go("z", "ok")
        deeds += [("start", "m", []), ("start", "b", [(9, "rope", 1)]), ("start", "c", [])]
        wanted = [("m", []), ("z", [("no", 0)]), ("a", [("did", 0)]), ("", []), ("c", [])]
        self.assertEqual(trails_after([{"rope": 1}], 1, deeds), wanted)

    def test_things_in_the_order_of_texts(self):
        stocks = [{"b": 1, "a": 2, "B": 3, "": 4, "10": 5, "9": 6, "ab": 7, "\u00e9": 8, " ": 9}, {"z": 1, "y": 2}]
        deeds = [("fill", 1, "a", 3), ("fill", 1, "zz", 1), ("fill", 1, "Z", 1)]
        wanted = [
            [("", 4), (" ", 9), ("10", 5), ("9", 6), ("B", 3), ("a", 2), ("ab", 7), ("b", 1), ("\u00e9", 8)],
            [("Z", 1), ("a", 3), ("y", 2), ("z", 1), ("zz", 1)],
        ]
        self.assertEqual(things_after(stocks, 1, deeds), wanted)

    def test_things_without_those_of_which_there_are_none(self):
        stocks = [{"rope": 0, "nail": 2, "plank": 1}]
        deeds = [("start", "hut", [(0, "nail", 2), (0, "brick", 0)])] + go("hut", "ok", "ok") + [("fill", 0, "hook", 0)]
        self.assertEqual(things_after(stocks, 1, deeds), [[("plank", 1)]])

    def test_keys_in_the_order_in_which_they_came_first(self):
        deeds = [("start", name, [(0, "rope", 1)]) for name in ("a", "b", "c", "d")]
        deeds += go("d", "lost") + go("c", "deaf") + go("a", "ok") + go("d", "ok") + [("late", 0)] + go("b", "ok")
        deeds += go("c", "deaf", "ok")
        wanted = [[(("c", 0), "undid"), (("a", 0), "did"), (("d", 0), "did"), (("b", 0), "no")]]
        self.assertEqual(answers([{"rope": 3}], 2, deeds)[-2:], [("unsure", 0), ("undid", 0)])
        self.assertEqual(keys_after([{"rope": 3}], 2, deeds), wanted)

    def test_a_key_that_an_undo_brought_first_keeps_its_place(self):
        deeds = [("start", "a", [(0, "rope", 1)]), ("start", "b", [(0, "rope", 1)])]
        deeds += go("a", "lost", "ok") + go("b", "ok") + [("late", 0)]
        self.assertEqual(keys_after([{"rope": 3}], 1, deeds), [[(("a", 0), "undid"), (("b", 0), "did")]])

    def test_lost_requests_in_order_with_the_number_of_the_desk(self):
        deeds = [("start", "hut", [(2, "rope", 1), (0, "", 7)]), ("start", "", [(1, "nail", HUGE)])]
        deeds += go("hut", "lost", "ok", "lost") + go("", "lost") + go("hut", "lost", "lost")
        wanted = [
            (2, ("do", "hut", 0, "rope", 1)),
            (0, ("do", "hut", 1, "", 7)),
            (1, ("do", "", 0, "nail", HUGE)),
            (0, ("do", "hut", 1, "", 7)),
            (0, ("undo", "hut", 1, "", 7)),
        ]
        self.assertEqual(lost_after([{}, {}, {"rope": 1}], 2, deeds), wanted)

    def test_the_kinds_of_all_that_is_answered(self):
        stocks = [{"rope": 5}, {"nail": 1}]
        deeds = [("start", "hut", [(0, "rope", 1), (1, "nail", 2)])] + go("hut", "lost", "ok", "ok", "ok")
        for asked in ASKED:
            self.assertIs(type(asked(stocks, 2, deeds)), list, asked.__name__)
        for pair in trails_after(stocks, 2, deeds):
            self.assertIs(type(pair), tuple)
            self.assertIs(type(pair[1]), list)
            self.assertEqual([type(entry) for entry in pair[1]], [tuple] * 3)
        for asked in (things_after, keys_after):
            for of_desk in asked(stocks, 2, deeds):
                self.assertIs(type(of_desk), list)
                for pair in of_desk:
                    self.assertIs(type(pair), tuple)
        for of_desk in keys_after(stocks, 2, deeds):
            for key, fate in of_desk:
                self.assertIs(type(key), tuple)
        for pair in lost_after(stocks, 2, deeds):
            self.assertIs(type(pair), tuple)
            self.assertIs(type(pair[1]), tuple)

    def test_two_hundred_and_fifty_deeds_and_somewhat_more(self):
        for many in (250, 300):
            deeds = [("start", str(each), [(0, "rope", 1)]) for each in range(many // 2)]
            deeds += [("go", str(each), "ok") for each in range(many // 2)]
            stocks = [{"rope": many // 2 - 1}]
            got = answers(stocks, 1, deeds)
            self.assertEqual(got, [True] * (many // 2) + [("did", 0)] * (many // 2 - 1) + [("no", 0)])
            self.assertEqual(len(trails_after(stocks, 1, deeds)), many // 2)
            self.assertEqual(things_after(stocks, 1, deeds), [[]])

    def test_twenty_desks_and_somewhat_more(self):
        for many in (20, 30):
            stocks = [{"rope": each} for each in range(many)]
            deeds = [("start", "hut", [(each, "rope", each) for each in range(many)])] + go("hut", *["ok"] * many)
            self.check_answers(stocks, 1, deeds, [True] + [("did", each) for each in range(many)])
            self.assertEqual(things_after(stocks, 1, deeds), [[]] * many)

    def test_a_whole_story(self):
        stocks = [{"rope": 4, "nail": 10}, {"plank": 2}]
        deeds = [
            ("start", "hut", [(0, "rope", 3), (1, "plank", 2)]),
            ("start", "barn", [(1, "plank", 1), (0, "rope", 2)]),
            ("go", "hut", "deaf"),
            ("go", "barn", "ok"),
            ("go", "hut", "ok"),
            ("go", "hut", "lost"),
            STOP,
            ("go", "hut", "ok"),
            ("fill", 1, "plank", 1),
            WAKE,
            ("go", "hut", "lost"),
            ("go", "barn", "ok"),
            ("go", "hut", "deaf"),
            ("late", 1),
            ("go", "barn", "deaf"),
            ("go", "hut", "ok"),
            ("late", 0),
            ("go", "barn", "ok"),
            ("go", "hut", "ok"),
            ("go", "hut", "ok"),
        ]
        self.check_answers(stocks, 2, deeds, [
            True, True, None, ("did", 0), ("did", 0), None, True, "stopped", True, True, None, ("no", 1),
            ("unsure", 1), "did", None, ("undid", 1), "no", ("undid", 0), ("undid", 0), "ended",
        ])
        self.assertEqual(trails_after(stocks, 2, deeds), [
            ("hut", [("did", 0), ("unsure", 1), ("undid", 1), ("undid", 0)]),
            ("barn", [("did", 0), ("no", 1), ("undid", 0)]),
        ])
        self.assertEqual(things_after(stocks, 2, deeds), [[("nail", 10), ("rope", 4)], [("plank", 3)]])
        self.assertEqual(keys_after(stocks, 2, deeds), [
            [(("hut", 0), "undid"), (("barn", 1), "no")],
            [(("barn", 0), "undid"), (("hut", 1), "undid")],
        ])
        self.assertEqual(lost_after(stocks, 2, deeds), [(1, ("do", "hut", 1, "plank", 2))] * 2)


class Promises:
    """What point 14 says of a story, worked out from the deeds and their answers."""

    def __init__(self, case, stocks, bound, deeds):
        self.case = case
        self.stocks = stocks
        self.bound = bound
        self.deeds = deeds
        self.works = {}
        self.came = [dict(things) for things in stocks]
        for deed, answer in zip(deeds, answers(stocks, bound, deeds), strict=True):
            if deed[0] == "start" and answer is True:
                self.works[deed[1]] = deed[2]
            if deed[0] == "fill" and answer is True:
                of_desk = self.came[deed[1]]
                of_desk[deed[2]] = of_desk.get(deed[2], 0) + deed[3]
        self.trails = dict(trails_after(stocks, bound, deeds))
        self.keys = [dict(of_desk) for of_desk in keys_after(stocks, bound, deeds)]

    def check_all(self):
        self.case.assertEqual(list(self.trails), list(self.works))
        for work, trail in self.trails.items():
            check_trail(len(self.works[work]), trail)
        self.check_together()
        self.check_ended()

    def check_together(self):
        for desk, now in enumerate(things_after(self.stocks, self.bound, self.deeds)):
            together = dict(now)
            for (work, step), fate in self.keys[desk].items():
                at, thing, many = self.works[work][step]
                self.case.assertEqual(at, desk)
                if fate == "did":
                    together[thing] = together.get(thing, 0) + many
            came = {thing: many for thing, many in self.came[desk].items() if many > 0}
            together = {thing: many for thing, many in together.items() if many > 0}
            self.case.assertEqual(together, came)

    def end_of(self, work):
        coming = next_of(len(self.works[work]), self.trails[work])
        return coming[1] if coming[0] == "end" else None

    def fate_of(self, work, step):
        return self.keys[self.works[work][step][0]].get((work, step))

    def check_ended(self):
        for work, steps in self.works.items():
            fates = [self.fate_of(work, step) for step in range(len(steps))]
            if self.end_of(work) == "done":
                self.case.assertEqual(fates, ["did"] * len(steps))
            if self.end_of(work) == "undone":
                self.case.assertNotIn("did", fates)
                self.case.assertGreater(len(steps), 0)

    def check_late_behind_the_end(self):
        lost = lost_after(self.stocks, self.bound, self.deeds)
        ended = [which for which, (desk, request) in enumerate(lost) if self.end_of(request[1]) is not None]
        late = self.deeds + [("late", which) for which in ended * 2]
        self.case.check_same_state(self.stocks, self.bound, late, self.deeds)
        return len(ended)

    def check_soon_ended(self):
        deeds = self.deeds + [WAKE]
        for work, steps in self.works.items():
            deeds = deeds + go(work, *["ok"] * (2 * len(steps)))
        asked = [("go", work, "ok") for work in self.works]
        got = answers(self.stocks, self.bound, deeds + asked)
        self.case.assertEqual(got[len(deeds):], ["ended"] * len(asked))
        after = Promises(self.case, self.stocks, self.bound, deeds)
        after.check_all()
        after.check_late_behind_the_end()
        return [after.end_of(work) for work in after.works]


THINGS = ["rope", "nail", ""]
NAMES = ["hut", "barn", "shed", "", "mill", "inn"]


def some_steps(dice, desks):
    steps = []
    for each in range(dice.randint(0, 6)):
        desk = dice.randrange(desks) if dice.random() < 0.98 else dice.choice([-1, desks])
        steps.append((desk, dice.choice(THINGS), dice.choice([0, 1, 2, 3, 8])))
    return steps


def some_deed(dice, desks):
    kind = dice.choices(["start", "go", "late", "fill", "stop", "wake"], [4, 60, 15, 6, 3, 9])[0]
    if kind == "start":
        return ("start", dice.choice(NAMES), some_steps(dice, desks))
    if kind == "go":
        return ("go", dice.choice(NAMES), dice.choice(["ok", "ok", "deaf", "lost"]))
    if kind == "late":
        return ("late", dice.randrange(20))
    if kind == "fill":
        return ("fill", dice.randrange(-1, desks + 1), dice.choice(THINGS), dice.choice([0, 1, 5]))
    return (kind,)


def some_story(seed):
    dice = random.Random(seed)
    desks = dice.randint(1, 4)
    stocks = [{thing: dice.randint(0, 9) for thing in THINGS if dice.random() < 0.8} for each in range(desks)]
    deeds = [("start", name, some_steps(dice, desks)) for name in NAMES]
    deeds += [some_deed(dice, desks) for each in range(250 - len(deeds))]
    return stocks, dice.choice([1, 1, 2, 3]), deeds


class LongStories(StoryCase):
    """Point 14, in stories of all deeds mixed; a seed makes them the same each time."""

    def test_behind_each_part_of_a_long_story(self):
        ends = []
        late_ones = 0
        for seed in range(30):
            stocks, bound, deeds = some_story(seed)
            for length in range(0, 251, 10):
                with self.subTest(seed=seed, length=length):
                    promises = Promises(self, stocks, bound, deeds[:length])
                    promises.check_all()
                    late_ones += promises.check_late_behind_the_end()
                    ends += promises.check_soon_ended()
        # The stories would show nothing if no work came to the one end or the other.
        self.assertGreater(ends.count("done"), 100)
        self.assertGreater(ends.count("undone"), 100)
        self.assertNotIn(None, ends)
        self.assertGreater(late_ones, 100)

    def test_all_short_stories(self):
        stocks = [{"rope": 1}]
        ahead = [("start", "hut", [(0, "rope", 1), (0, "rope", 1)])]
        kinds = go("hut", "ok", "deaf", "lost") + [("late", 0), ("late", 1), STOP, WAKE, ("fill", 0, "rope", 1)]
        for bound in (1, 2):
            for deeds in itertools.product(kinds, repeat=4):
                promises = Promises(self, stocks, bound, ahead + list(deeds))
                promises.check_all()
                promises.check_late_behind_the_end()
                promises.check_soon_ended()

    def test_sixty_steps_undone_by_the_last(self):
        stocks = [{"rope": 59}]
        ahead = [("start", "hut", [(0, "rope", 1)] * 60)]
        deeds = ahead + go("hut", *["ok"] * 119)
        self.assertEqual(answers(stocks, 1, deeds)[-1], ("undid", 0))
        self.assertEqual(Promises(self, stocks, 1, ahead).check_soon_ended(), ["undone"])
        self.assertEqual(Promises(self, [{"rope": 60}], 1, ahead).check_soon_ended(), ["done"])


class NothingChangedNothingKept(StoryCase):
    def test_all_that_was_handed_in_is_as_it_was(self):
        for seed in range(10):
            stocks, bound, deeds = some_story(seed)
            handed_stocks = copy.deepcopy(stocks)
            handed_deeds = copy.deepcopy(deeds)
            for asked in ASKED:
                asked(handed_stocks, bound, handed_deeds)
                self.assertEqual(handed_stocks, stocks)
                self.assertEqual([list(things) for things in handed_stocks], [list(things) for things in stocks])
                self.assertEqual(handed_deeds, deeds)

    def test_asking_again_answers_the_same(self):
        for seed in range(10):
            story = some_story(seed)
            self.assertEqual(all_asked(*story), all_asked(*story))

    def test_what_is_handed_in_changed_later_changes_nothing(self):
        stocks = [{"rope": 5}, {"nail": 1}]
        steps = [(0, "rope", 3), (1, "nail", 2)]
        deeds = [("start", "hut", steps)] + go("hut", "lost", "ok", "ok")
        got = all_asked(stocks, 2, deeds)
        wanted = copy.deepcopy(got)
        steps.clear()
        deeds.reverse()
        stocks[0]["rope"] = 0
        stocks.pop()
        self.assertEqual(got, wanted)

    def test_a_changed_answer_changes_nothing(self):
        for seed in range(5):
            stocks, bound, deeds = some_story(seed)
            wanted = copy.deepcopy(all_asked(stocks, bound, deeds))
            got = all_asked(stocks, bound, deeds)
            for pair in got[1]:
                pair[1].append(("did", 7))
            for lists in (got[2], got[3]):
                for of_desk in lists:
                    of_desk.append("more")
            for answered in got:
                answered.clear()
            self.assertEqual(all_asked(stocks, bound, deeds), wanted)

    def test_one_list_of_steps_for_two_works(self):
        steps = [(0, "rope", 1), (0, "rope", 1)]
        deeds = [("start", "hut", steps), ("start", "barn", steps)]
        deeds += go("hut", "ok") + go("barn", "ok", "ok") + go("hut", "ok")
        self.check_answers([{"rope": 3}], 1, deeds, [True, True, ("did", 0), ("did", 0), ("did", 1), ("no", 1)])
        self.assertEqual(steps, [(0, "rope", 1), (0, "rope", 1)])

    def test_one_dict_for_two_desks(self):
        things = {"rope": 1}
        deeds = [("start", "hut", [(0, "rope", 1), (1, "rope", 1)])] + go("hut", "ok", "ok") + [("fill", 1, "nail", 2)]
        self.check_answers([things, things], 1, deeds, [True, ("did", 0), ("did", 1), True])
        self.assertEqual(things_after([things, things], 1, deeds), [[], [("nail", 2)]])
        self.assertEqual(things, {"rope": 1})

    def test_one_story_knows_nothing_of_another(self):
        stocks = [{"rope": 1}]
        deeds = [("start", "hut", [(0, "rope", 1)])] + go("hut", "lost", "ok") + [STOP]
        self.assertEqual(answers(stocks, 2, deeds), [True, None, ("did", 0), True])
        self.assertEqual(answers(stocks, 2, go("hut", "ok") + [("late", 0), WAKE]), ["no work", None, False])
        self.assertEqual(all_asked(stocks, 2, []), [[], [], [[("rope", 1)]], [[]], []])


if __name__ == "__main__":
    unittest.main()
