"""Attempts, lost requests, stopping and coming up: points 9 to 12."""

import unittest

from trailbook.runner import Runner
from trailbook.story import answers, keys_after, lost_after, things_after, trails_after

HUGE = 10 ** 100 - 1
STOP = ("stop",)
WAKE = ("wake",)


def start(work, *steps):
    return ("start", work, list(steps))


def go(work, *lucks):
    return [("go", work, luck) for luck in lucks]


def late(*numbers):
    return [("late", which) for which in numbers]


class RunnerCase(unittest.TestCase):
    def check(self, stocks, bound, deeds, wanted=None, trails=None, things=None, keys=None, lost=None):
        """Each of what is wanted, where it is told, behind the whole story."""
        for asked, value in (
            (answers, wanted),
            (trails_after, trails),
            (things_after, things),
            (keys_after, keys),
            (lost_after, lost),
        ):
            if value is not None:
                self.assertEqual(asked(stocks, bound, deeds), value, asked.__name__)


class AttemptsToDo(RunnerCase):
    hut = start("hut", (0, "rope", 3))
    request = ("do", "hut", 0, "rope", 3)

    def test_ok_with_enough(self):
        self.check(
            [{"rope": 5}], 2, [self.hut] + go("hut", "ok"),
            wanted=[True, ("did", 0)],
            trails=[("hut", [("did", 0)])],
            things=[[("rope", 2)]],
            keys=[[(("hut", 0), "did")]],
            lost=[],
        )

    def test_ok_with_too_few(self):
        self.check(
            [{"rope": 2}], 2, [self.hut] + go("hut", "ok"),
            wanted=[True, ("no", 0)],
            trails=[("hut", [("no", 0)])],
            things=[[("rope", 2)]],
            keys=[[(("hut", 0), "no")]],
            lost=[],
        )

    def test_deaf_with_enough(self):
        self.check(
            [{"rope": 5}], 2, [self.hut] + go("hut", "deaf"),
            wanted=[True, None],
            trails=[("hut", [])],
            things=[[("rope", 2)]],
            keys=[[(("hut", 0), "did")]],
            lost=[],
        )

    def test_deaf_with_too_few(self):
        self.check(
            [{"rope": 2}], 2, [self.hut] + go("hut", "deaf"),
            wanted=[True, None],
            trails=[("hut", [])],
            things=[[("rope", 2)]],
            keys=[[(("hut", 0), "no")]],
            lost=[],
        )

    def test_lost(self):
        self.check(
            [{"rope": 5}], 2, [self.hut] + go("hut", "lost"),
            wanted=[True, None],
            trails=[("hut", [])],
            things=[[("rope", 5)]],
            keys=[[]],
            lost=[(0, self.request)],
        )

    def test_the_entry_is_a_tuple(self):
        for bound, luck in ((2, "ok"), (1, "deaf"), (1, "lost")):
            written = answers([{"rope": 5}], bound, [self.hut] + go("hut", luck))[1]
            self.assertIs(type(written), tuple)

    def test_deaf_then_ok_does_it_once_only(self):
        for deaf in range(1, 6):
            self.check(
                [{"rope": 5}], 6, [self.hut] + go("hut", *["deaf"] * deaf, "ok"),
                wanted=[True] + [None] * deaf + [("did", 0)],
                trails=[("hut", [("did", 0)])],
                things=[[("rope", 2)]],
                keys=[[(("hut", 0), "did")]],
            )

    def test_deaf_with_too_few_then_ok_is_no_though_there_is_enough_by_then(self):
        self.check(
            [{"rope": 2}], 2, [self.hut] + go("hut", "deaf") + [("fill", 0, "rope", 9)] + go("hut", "ok"),
            wanted=[True, None, True, ("no", 0)],
            things=[[("rope", 11)]],
            keys=[[(("hut", 0), "no")]],
        )

    def test_lost_then_ok(self):
        self.check(
            [{"rope": 5}], 2, [self.hut] + go("hut", "lost", "ok"),
            wanted=[True, None, ("did", 0)],
            things=[[("rope", 2)]],
            keys=[[(("hut", 0), "did")]],
            lost=[(0, self.request)],
        )

    def test_each_step_goes_to_its_own_desk(self):
        steps = [(2, "rope", 1), (0, "nail", 4), (2, "rope", 2)]
        self.check(
            [{"nail": 4}, {"rope": 9, "nail": 9}, {"rope": 5}], 1, [start("hut", *steps)] + go("hut", "ok", "ok", "ok"),
            wanted=[True, ("did", 0), ("did", 1), ("did", 2)],
            things=[[], [("nail", 9), ("rope", 9)], [("rope", 2)]],
            keys=[[(("hut", 1), "did")], [], [(("hut", 0), "did"), (("hut", 2), "did")]],
        )


class AttemptsToUndo(RunnerCase):
    """Step 0 is did and step 1 is no, so that step 0 is to be undone."""

    stocks = [{"rope": 5}, {}]
    turned = [start("hut", (0, "rope", 3), (1, "nail", 1))] + go("hut", "ok", "ok")
    request = ("undo", "hut", 0, "rope", 3)

    def test_ok(self):
        self.check(
            self.stocks, 2, self.turned + go("hut", "ok"),
            wanted=[True, ("did", 0), ("no", 1), ("undid", 0)],
            trails=[("hut", [("did", 0), ("no", 1), ("undid", 0)])],
            things=[[("rope", 5)], []],
            keys=[[(("hut", 0), "undid")], [(("hut", 1), "no")]],
            lost=[],
        )

    def test_deaf(self):
        self.check(
            self.stocks, 2, self.turned + go("hut", "deaf"),
            wanted=[True, ("did", 0), ("no", 1), None],
            trails=[("hut", [("did", 0), ("no", 1)])],
            things=[[("rope", 5)], []],
            keys=[[(("hut", 0), "undid")], [(("hut", 1), "no")]],
            lost=[],
        )

    def test_lost(self):
        self.check(
            self.stocks, 2, self.turned + go("hut", "lost"),
            wanted=[True, ("did", 0), ("no", 1), None],
            trails=[("hut", [("did", 0), ("no", 1)])],
            things=[[("rope", 2)], []],
            keys=[[(("hut", 0), "did")], [(("hut", 1), "no")]],
            lost=[(0, self.request)],
        )

    def test_deaf_then_ok_puts_back_once_only(self):
        self.check(
            self.stocks, 2, self.turned + go("hut", "deaf", "deaf", "ok"),
            wanted=[True, ("did", 0), ("no", 1), None, None, ("undid", 0)],
            things=[[("rope", 5)], []],
        )

    def test_never_left_off(self):
        for bound in (1, 2, 3):
            for luck in ("deaf", "lost"):
                with self.subTest(bound=bound, luck=luck):
                    self.check(
                        self.stocks, bound, self.turned + go("hut", *[luck] * 200, "ok"),
                        wanted=[True, ("did", 0), ("no", 1)] + [None] * 200 + [("undid", 0)],
                        trails=[("hut", [("did", 0), ("no", 1), ("undid", 0)])],
                        things=[[("rope", 5)], []],
                    )

    def test_never_left_off_by_deaf_and_lost_in_turn(self):
        self.check(
            self.stocks, 2, self.turned + go("hut", *["deaf", "lost"] * 50),
            wanted=[True, ("did", 0), ("no", 1)] + [None] * 100,
            lost=[(0, self.request)] * 50,
        )

    def test_an_unsure_step_is_undone_itself_and_then_those_ahead_of_it(self):
        steps = [(0, "rope", 1), (0, "rope", 2), (0, "rope", 4)]
        self.check(
            [{"rope": 9}], 1, [start("hut", *steps)] + go("hut", "ok", "deaf", "ok", "ok", "ok"),
            wanted=[True, ("did", 0), ("unsure", 1), ("undid", 1), ("undid", 0), "ended"],
            things=[[("rope", 9)]],
            keys=[[(("hut", 0), "undid"), (("hut", 1), "undid")]],
        )

    def test_a_step_whose_do_never_came_is_undone_too(self):
        self.check(
            [{"rope": 5}], 1, [start("hut", (0, "rope", 3))] + go("hut", "lost", "ok", "ok"),
            wanted=[True, ("unsure", 0), ("undid", 0), "ended"],
            things=[[("rope", 5)]],
            keys=[[(("hut", 0), "undid")]],
        )


class TheBound(RunnerCase):
    hut = start("hut", (0, "rope", 1), (0, "rope", 1))
    stocks = [{"rope": 9}]

    def test_unsure_at_just_the_attempt_that_it_tells(self):
        for bound in (1, 2, 3, 4, 7, 60, 200):
            for luck in ("deaf", "lost"):
                with self.subTest(bound=bound, luck=luck):
                    self.check(
                        self.stocks, bound, [self.hut] + go("hut", *[luck] * bound),
                        wanted=[True] + [None] * (bound - 1) + [("unsure", 0)],
                        trails=[("hut", [("unsure", 0)])],
                    )

    def test_deaf_and_lost_are_counted_together(self):
        self.check(
            self.stocks, 4, [self.hut] + go("hut", "lost", "deaf", "lost", "deaf"),
            wanted=[True, None, None, None, ("unsure", 0)],
        )

    def test_the_last_of_these_comes_by_deaf_and_is_kept_by_lost(self):
        self.check(self.stocks, 1, [self.hut] + go("hut", "deaf"), things=[[("rope", 8)]], lost=[])
        self.check(
            self.stocks, 1, [self.hut] + go("hut", "lost"),
            things=[[("rope", 9)]], lost=[(0, ("do", "hut", 0, "rope", 1))],
        )

    def test_an_answer_at_the_last_of_these_is_written(self):
        self.check(
            self.stocks, 3, [self.hut] + go("hut", "lost", "deaf", "ok"),
            wanted=[True, None, None, ("did", 0)],
        )

    def test_a_bound_of_a_hundred_figures(self):
        self.check(
            self.stocks, HUGE, [self.hut] + go("hut", *["lost"] * 249, "ok"),
            wanted=[True] + [None] * 249 + [("did", 0)],
        )

    def test_another_step_begins_anew(self):
        self.check(
            self.stocks, 3, [self.hut] + go("hut", "lost", "lost", "ok", "lost", "lost", "lost"),
            wanted=[True, None, None, ("did", 0), None, None, ("unsure", 1)],
        )

    def test_a_stop_with_a_coming_up_begins_anew(self):
        self.check(
            self.stocks, 3, [self.hut] + go("hut", "lost", "deaf") + [STOP, WAKE] + go("hut", "deaf", "lost", "lost"),
            wanted=[True, None, None, True, True, None, None, ("unsure", 0)],
        )

    def test_a_stop_ahead_of_each_last_attempt_begins_anew_each_time(self):
        again = [STOP, WAKE] + go("hut", "lost")
        self.check(
            self.stocks, 2, [self.hut] + again * 20,
            wanted=[True] + [True, True, None] * 20,
            trails=[("hut", [])],
        )

    def test_a_stop_begins_anew_with_a_bound_of_one_too(self):
        self.check(
            self.stocks, 1, [self.hut, STOP, WAKE] + go("hut", "lost"),
            wanted=[True, True, True, ("unsure", 0)],
        )

    def test_a_wake_while_up_forgets_nothing(self):
        self.check(
            self.stocks, 2, [self.hut] + go("hut", "lost") + [WAKE] + go("hut", "lost"),
            wanted=[True, None, False, ("unsure", 0)],
        )

    def test_attempts_while_stopped_are_not_counted(self):
        self.check(
            self.stocks, 2, [self.hut, STOP] + go("hut", "lost", "deaf", "lost") + [WAKE] + go("hut", "lost", "lost"),
            wanted=[True, True, "stopped", "stopped", "stopped", True, None, ("unsure", 0)],
        )

    def test_a_second_stop_and_a_start_again_change_no_count(self):
        self.check(
            self.stocks, 2, [self.hut] + go("hut", "lost") + [self.hut] + go("hut", "lost"),
            wanted=[True, None, False, ("unsure", 0)],
        )
        self.check(
            self.stocks, 2, [self.hut, STOP, STOP, WAKE] + go("hut", "lost", "lost"),
            wanted=[True, True, False, True, None, ("unsure", 0)],
        )

    def test_the_counts_of_two_works_are_apart(self):
        barn = start("barn", (0, "rope", 1))
        deeds = [self.hut, barn]
        deeds += go("hut", "lost") + go("barn", "lost") + go("hut", "lost") + go("barn", "lost")
        deeds += go("hut", "lost") + go("barn", "lost")
        self.check(
            self.stocks, 3, deeds,
            wanted=[True, True, None, None, None, None, ("unsure", 0), ("unsure", 0)],
        )

    def test_an_answer_to_one_work_begins_nothing_anew_for_another(self):
        deeds = [self.hut, start("barn", (0, "rope", 1))]
        deeds += go("hut", "lost") + go("barn", "ok") + go("hut", "lost")
        self.check(self.stocks, 2, deeds, wanted=[True, True, None, ("did", 0), ("unsure", 0)])

    def test_a_stop_begins_anew_for_each_work(self):
        deeds = [self.hut, start("barn", (0, "rope", 1))]
        deeds += go("hut", "lost") + go("barn", "lost") + [STOP, WAKE]
        deeds += go("hut", "lost", "lost") + go("barn", "lost", "lost")
        self.check(
            self.stocks, 2, deeds,
            wanted=[True, True, None, None, True, True, None, ("unsure", 0), None, ("unsure", 0)],
        )

    def test_fills_and_late_requests_begin_nothing_anew(self):
        deeds = [self.hut] + go("hut", "lost") + [("fill", 0, "rope", 1)] + late(0) + go("hut", "lost")
        self.check(self.stocks, 2, deeds, wanted=[True, None, True, "did", ("unsure", 0)])

    def test_late_requests_are_no_attempts(self):
        deeds = [self.hut] + go("hut", "lost") + late(0, 0, 0, 0) + go("hut", "ok")
        self.check(self.stocks, 2, deeds, wanted=[True, None, "did", "did", "did", "did", ("did", 0)])


class LostRequests(RunnerCase):
    hut = start("hut", (0, "rope", 3))
    stocks = [{"rope": 5}]

    def test_a_late_do_ahead_of_its_undo(self):
        deeds = [self.hut] + go("hut", "lost") + late(0)
        self.check(
            self.stocks, 1, deeds,
            wanted=[True, ("unsure", 0), "did"],
            trails=[("hut", [("unsure", 0)])],
            things=[[("rope", 2)]],
            keys=[[(("hut", 0), "did")]],
        )
        self.check(
            self.stocks, 1, deeds + go("hut", "ok"),
            wanted=[True, ("unsure", 0), "did", ("undid", 0)],
            things=[[("rope", 5)]],
            keys=[[(("hut", 0), "undid")]],
        )

    def test_a_late_do_behind_its_undo(self):
        self.check(
            self.stocks, 1, [self.hut] + go("hut", "lost", "ok") + late(0),
            wanted=[True, ("unsure", 0), ("undid", 0), "no"],
            trails=[("hut", [("unsure", 0), ("undid", 0)])],
            things=[[("rope", 5)]],
            keys=[[(("hut", 0), "undid")]],
        )

    def test_the_same_one_several_times(self):
        self.check(
            self.stocks, 2, [self.hut] + go("hut", "lost") + late(0, 0, 0),
            wanted=[True, None, "did", "did", "did"],
            things=[[("rope", 2)]],
        )
        self.check(
            self.stocks, 1, [self.hut] + go("hut", "lost") + late(0, 0) + go("hut", "ok") + late(0, 0),
            wanted=[True, ("unsure", 0), "did", "did", ("undid", 0), "no", "no"],
            things=[[("rope", 5)]],
        )

    def test_a_late_do_with_too_few(self):
        self.check(
            [{"rope": 2}], 2, [self.hut] + go("hut", "lost") + late(0) + [("fill", 0, "rope", 9)] + late(0),
            wanted=[True, None, "no", True, "no"],
            things=[[("rope", 11)]],
            keys=[[(("hut", 0), "no")]],
        )

    def test_a_late_do_behind_its_answered_do(self):
        self.check(
            self.stocks, 2, [self.hut] + go("hut", "lost", "ok") + late(0),
            wanted=[True, None, ("did", 0), "did"],
            things=[[("rope", 2)]],
        )

    def test_a_late_undo(self):
        deeds = [self.hut] + go("hut", "deaf", "lost") + late(0, 0)
        self.check(
            self.stocks, 1, deeds,
            wanted=[True, ("unsure", 0), None, "undid", "undid"],
            trails=[("hut", [("unsure", 0)])],
            things=[[("rope", 5)]],
            keys=[[(("hut", 0), "undid")]],
            lost=[(0, ("undo", "hut", 0, "rope", 3))],
        )
        self.check(
            self.stocks, 1, deeds + go("hut", "ok") + late(0),
            wanted=[True, ("unsure", 0), None, "undid", "undid", ("undid", 0), "undid"],
            things=[[("rope", 5)]],
        )

    def test_one_of_a_number_that_there_is_not(self):
        self.check(self.stocks, 1, late(0, 1, HUGE), wanted=[None, None, None], keys=[[]])
        self.check(
            self.stocks, 3, [self.hut] + go("hut", "lost", "lost") + late(2, 3, HUGE, -1),
            wanted=[True, None, None, None, None, None, None],
            things=[[("rope", 5)]],
            keys=[[]],
        )

    def test_one_that_is_lost_only_afterwards(self):
        self.check(
            self.stocks, 3, [self.hut] + late(0) + go("hut", "lost") + late(0, 1),
            wanted=[True, None, None, "did", None],
        )

    def test_while_stopped(self):
        self.check(
            self.stocks, 2, [self.hut] + go("hut", "lost") + [STOP] + late(0, 1, 0),
            wanted=[True, None, True, "did", None, "did"],
            things=[[("rope", 2)]],
            keys=[[(("hut", 0), "did")]],
            trails=[("hut", [])],
        )

    def test_no_entry_is_written_for_a_late_answer(self):
        deeds = [self.hut] + go("hut", "lost") + late(0)
        self.check(self.stocks, 2, deeds, trails=[("hut", [])])
        self.check(
            self.stocks, 2, deeds + go("hut", "ok"),
            wanted=[True, None, "did", ("did", 0)],
            trails=[("hut", [("did", 0)])],
            things=[[("rope", 2)]],
        )

    def test_no_entry_is_written_for_a_late_no(self):
        deeds = [self.hut] + go("hut", "lost") + late(0)
        self.check([{}], 2, deeds, wanted=[True, None, "no"], trails=[("hut", [])])
        self.check([{}], 2, deeds + go("hut", "ok"), trails=[("hut", [("no", 0)])])

    def test_numbered_in_the_order_in_which_they_were_lost(self):
        deeds = [start("hut", (1, "rope", 3), (0, "nail", 1)), start("barn", (0, "nail", 2))]
        deeds += go("barn", "lost") + go("hut", "lost", "ok", "lost", "lost") + go("barn", "lost", "lost")
        lost = [
            (0, ("do", "barn", 0, "nail", 2)),
            (1, ("do", "hut", 0, "rope", 3)),
            (0, ("do", "hut", 1, "nail", 1)),
            (0, ("do", "hut", 1, "nail", 1)),
            (0, ("do", "barn", 0, "nail", 2)),
            (0, ("undo", "barn", 0, "nail", 2)),
        ]
        stocks = [{"nail": 2}, {"rope": 3}]
        self.check(
            stocks, 2, deeds,
            wanted=[True, True, None, None, ("did", 0), None, ("unsure", 1), ("unsure", 0), None],
            lost=lost,
        )
        self.check(
            stocks, 2, deeds + late(5, 4, 3, 2, 1, 0),
            wanted=answers(stocks, 2, deeds) + ["undid", "no", "did", "did", "did", "no"],
            things=[[("nail", 1)], []],
            keys=[[(("barn", 0), "undid"), (("hut", 1), "did")], [(("hut", 0), "did")]],
            lost=lost,
        )

    def test_neither_deaf_nor_ok_nor_refused_attempts_are_lost_requests(self):
        deeds = go("hut", "lost") + [self.hut] + go("hut", "deaf", "ok", "lost") + [STOP] + go("hut", "lost")
        self.check(
            self.stocks, 2, deeds,
            wanted=["no work", True, None, ("did", 0), "ended", True, "stopped"],
            lost=[],
        )


class StoppingAndComingUp(RunnerCase):
    stocks = [{"rope": 5}, {"nail": 5}]
    ahead = (
        [start("hut", (0, "rope", 3), (1, "nail", 9)), start("barn", (1, "nail", 1)), start("shed")]
        + go("hut", "ok", "ok", "lost")
        + go("barn", "deaf")
    )

    def check_all_the_same(self, deeds, others):
        for asked in (trails_after, things_after, keys_after, lost_after):
            self.assertEqual(asked(self.stocks, 2, deeds), asked(self.stocks, 2, others), asked.__name__)

    def test_works_trails_desks_and_lost_requests_stay(self):
        self.check(
            self.stocks, 2, self.ahead + [STOP],
            trails=[("hut", [("did", 0), ("no", 1)]), ("barn", []), ("shed", [])],
            things=[[("rope", 2)], [("nail", 4)]],
            keys=[[(("hut", 0), "did")], [(("hut", 1), "no"), (("barn", 0), "did")]],
            lost=[(0, ("undo", "hut", 0, "rope", 3))],
        )
        for deeds in ([STOP], [STOP, STOP], [STOP, WAKE], [STOP, WAKE, WAKE], [STOP, WAKE] * 5, [WAKE]):
            self.check_all_the_same(self.ahead + deeds, self.ahead)

    def test_the_work_goes_on_where_it_was(self):
        self.check(
            self.stocks, 2, self.ahead + [STOP, WAKE] + go("hut", "ok", "ok") + go("barn", "ok") + late(0),
            wanted=answers(self.stocks, 2, self.ahead) + [True, True, ("undid", 0), "ended", ("did", 0), "undid"],
            things=[[("rope", 5)], [("nail", 4)]],
        )

    def test_an_unsure_that_was_written_stays(self):
        self.check(
            self.stocks, 1, [start("hut", (0, "rope", 3))] + go("hut", "deaf") + [STOP, WAKE] + go("hut", "ok"),
            wanted=[True, ("unsure", 0), True, True, ("undid", 0)],
        )


class NothingKept(unittest.TestCase):
    def test_what_a_runner_was_made_of_changed_later(self):
        stocks = [{"rope": 5}]
        runner = Runner(stocks, 1)
        stocks[0]["rope"] = 0
        stocks.clear()
        self.assertIs(runner.start("hut", [(0, "rope", 5)]), True)
        self.assertEqual(runner.go("hut", "ok"), ("did", 0))

    def test_steps_changed_later(self):
        runner = Runner([{"rope": 5}], 1)
        steps = [(0, "rope", 1), (0, "rope", 2)]
        runner.start("hut", steps)
        steps[0] = (7, "nail", 1)
        steps.pop()
        self.assertEqual([runner.go("hut", "ok") for each in range(3)], [("did", 0), ("did", 1), "ended"])
        self.assertEqual(steps, [(7, "nail", 1)])


if __name__ == "__main__":
    unittest.main()
