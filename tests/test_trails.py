import unittest

from trailbook.errors import NoDesk, NoLine, NoTrail, NoWork, TrailError
from trailbook.trails import check_trail, next_of, standing

HUGE = 10 ** 100 - 1


def did_up_to(step):
    return [("did", each) for each in range(step)]


def undid_from(step):
    return [("undid", each) for each in range(step, -1, -1)]


def ended_trails(many):
    """Every trail that has come to its end, written out from the document."""
    ended = [did_up_to(many)]
    for step in range(many):
        ended.append(did_up_to(step) + [("no", step)] + undid_from(step - 1))
        ended.append(did_up_to(step) + [("unsure", step)] + undid_from(step))
    return ended


def all_trails(many):
    """Every trail: what lies ahead of some place in an ended one."""
    trails = []
    for ended in ended_trails(many):
        for length in range(len(ended) + 1):
            if ended[:length] not in trails:
                trails.append(ended[:length])
    return trails


class NextOf(unittest.TestCase):
    def check_next(self, many, trail, wanted):
        got = next_of(many, trail)
        self.assertEqual(got, wanted)
        self.assertIs(type(got), tuple)

    def test_behind_an_empty_trail(self):
        self.check_next(1, [], ("do", 0))
        self.check_next(3, [], ("do", 0))

    def test_a_work_without_steps_is_done_at_once(self):
        self.check_next(0, [], ("end", "done"))

    def test_behind_did(self):
        self.check_next(3, [("did", 0)], ("do", 1))
        self.check_next(3, [("did", 0), ("did", 1)], ("do", 2))

    def test_behind_did_of_the_last_step(self):
        self.check_next(1, [("did", 0)], ("end", "done"))
        self.check_next(3, did_up_to(3), ("end", "done"))

    def test_behind_no_the_step_ahead_is_undone(self):
        self.check_next(3, [("did", 0), ("no", 1)], ("undo", 0))
        self.check_next(3, [("did", 0), ("did", 1), ("no", 2)], ("undo", 1))

    def test_behind_no_of_the_first_step(self):
        self.check_next(1, [("no", 0)], ("end", "undone"))
        self.check_next(3, [("no", 0)], ("end", "undone"))

    def test_behind_unsure_that_very_step_is_undone(self):
        self.check_next(3, [("did", 0), ("unsure", 1)], ("undo", 1))
        self.check_next(3, [("did", 0), ("did", 1), ("unsure", 2)], ("undo", 2))

    def test_behind_unsure_of_the_first_step(self):
        self.check_next(1, [("unsure", 0)], ("undo", 0))
        self.check_next(3, [("unsure", 0)], ("undo", 0))

    def test_behind_undid_the_step_ahead_is_undone(self):
        trail = [("did", 0), ("did", 1), ("unsure", 2), ("undid", 2)]
        self.check_next(3, trail, ("undo", 1))
        self.check_next(3, trail + [("undid", 1)], ("undo", 0))

    def test_behind_undid_of_the_first_step(self):
        self.check_next(1, [("unsure", 0), ("undid", 0)], ("end", "undone"))
        self.check_next(3, [("did", 0), ("no", 1), ("undid", 0)], ("end", "undone"))
        self.check_next(3, [("did", 0), ("unsure", 1), ("undid", 1), ("undid", 0)], ("end", "undone"))

    def test_sixty_steps(self):
        self.check_next(60, did_up_to(59), ("do", 59))
        self.check_next(60, did_up_to(60), ("end", "done"))
        self.check_next(60, did_up_to(59) + [("no", 59)], ("undo", 58))
        self.check_next(60, did_up_to(59) + [("unsure", 59)], ("undo", 59))
        self.check_next(60, did_up_to(59) + [("unsure", 59)] + undid_from(59), ("end", "undone"))

    def test_somewhat_beyond_sixty_steps(self):
        self.check_next(100, did_up_to(99), ("do", 99))
        self.check_next(100, did_up_to(100), ("end", "done"))

    def test_every_ended_trail_leads_entry_by_entry_to_its_end(self):
        for many in range(6):
            for ended in ended_trails(many):
                for place, (word, step) in enumerate(ended):
                    with self.subTest(many=many, trail=ended[:place]):
                        self.check_next(many, ended[:place], ("undo" if word == "undid" else "do", step))
                with self.subTest(many=many, trail=ended):
                    self.check_next(many, ended, ("end", "done" if ended == did_up_to(many) else "undone"))


REFUSED = [
    # another word
    (2, [("done", 0)]),
    (2, [("", 0)]),
    (2, [("DID", 0)]),
    (2, [("did ", 0)]),
    (2, [("do", 0)]),
    (2, [("undo", 0)]),
    (2, [("end", 0)]),
    (2, [("did", 0), ("doubt", 1)]),
    (2, [("did", 0), ("no", 1), ("undo", 0)]),
    # a word that doesn't fit what comes next
    (2, [("undid", 0)]),
    (2, [("did", 0), ("undid", 0)]),
    (2, [("did", 0), ("undid", 1)]),
    (2, [("unsure", 0), ("did", 0)]),
    (2, [("unsure", 0), ("no", 0)]),
    (2, [("unsure", 0), ("did", 1)]),
    (2, [("did", 0), ("no", 1), ("did", 0)]),
    (2, [("did", 0), ("no", 1), ("no", 0)]),
    (2, [("did", 0), ("no", 1), ("unsure", 0)]),
    (2, [("did", 0), ("unsure", 1), ("undid", 1), ("did", 1)]),
    # another step
    (2, [("did", 1)]),
    (2, [("no", 1)]),
    (2, [("unsure", 1)]),
    (3, [("did", 0), ("did", 2)]),
    (3, [("did", 0), ("no", 0)]),
    (3, [("did", 0), ("unsure", 0)]),
    (3, [("did", 0), ("no", 2)]),
    (3, [("did", 0), ("no", 1), ("undid", 1)]),
    (3, [("did", 0), ("unsure", 1), ("undid", 0)]),
    (3, [("did", 0), ("did", 1), ("no", 2), ("undid", 0)]),
    (3, [("did", 0), ("did", 1), ("no", 2), ("undid", 2)]),
    (3, [("did", 0), ("did", 1), ("no", 2), ("undid", 1), ("undid", 2)]),
    # a step below nought
    (2, [("did", -1)]),
    (2, [("no", -1)]),
    (2, [("unsure", -1)]),
    (2, [("undid", -1)]),
    (2, [("did", -HUGE)]),
    (2, [("no", 0), ("undid", -1)]),
    (2, [("unsure", 0), ("undid", 0), ("undid", -1)]),
    # a step beyond the last
    (0, [("did", 0)]),
    (0, [("no", 0)]),
    (0, [("unsure", 0)]),
    (0, [("undid", 0)]),
    (0, [("undid", -1)]),
    (1, [("did", 1)]),
    (1, [("did", 0), ("did", 1)]),
    (2, [("did", 0), ("did", 1), ("no", 2)]),
    (2, [("did", 0), ("did", 1), ("unsure", 2)]),
    (2, [("did", HUGE)]),
    # the same entry twice
    (2, [("did", 0), ("did", 0)]),
    (2, [("no", 0), ("no", 0)]),
    (2, [("unsure", 0), ("unsure", 0)]),
    (2, [("unsure", 0), ("undid", 0), ("undid", 0)]),
    (3, [("did", 0), ("unsure", 1), ("undid", 1), ("undid", 1)]),
    # an entry behind the end
    (1, [("did", 0), ("undid", 0)]),
    (2, [("did", 0), ("did", 1), ("did", 0)]),
    (2, [("did", 0), ("did", 1), ("undid", 1)]),
    (2, [("no", 0), ("undid", 0)]),
    (2, [("no", 0), ("did", 0)]),
    (2, [("no", 0), ("did", 1)]),
    (2, [("unsure", 0), ("undid", 0), ("did", 0)]),
    (2, [("did", 0), ("no", 1), ("undid", 0), ("undid", 1)]),
    # wrong in the middle, though the last entry fits the one ahead of it
    (3, [("did", 1), ("did", 2)]),
    (3, [("did", 0), ("did", 2), ("no", 1), ("undid", 0)]),
    (3, [("undid", 1), ("undid", 0)]),
]


class CheckTrail(unittest.TestCase):
    def test_none_for_every_trail(self):
        for many in range(6):
            for trail in all_trails(many):
                with self.subTest(many=many, trail=trail):
                    self.assertIsNone(check_trail(many, trail))

    def test_none_for_trails_of_sixty_steps_and_somewhat_more(self):
        for many in (60, 80):
            for ended in ended_trails(many):
                self.assertIsNone(check_trail(many, ended))

    def test_refused(self):
        for many, entries in REFUSED:
            with self.subTest(many=many, entries=entries):
                with self.assertRaises(NoTrail):
                    check_trail(many, entries)

    def test_nothing_but_what_is_a_trail_can_stand_behind_a_trail(self):
        words = ["did", "no", "unsure", "undid", "other"]
        for many in range(4):
            trails = all_trails(many)
            for trail in trails:
                for word in words:
                    for step in range(-2, many + 2):
                        longer = trail + [(word, step)]
                        if longer in trails:
                            continue
                        with self.subTest(many=many, entries=longer):
                            with self.assertRaises(NoTrail):
                                check_trail(many, longer)

    def test_the_refusal_is_no_other_one(self):
        with self.assertRaises(TrailError) as caught:
            check_trail(1, [("did", 1)])
        self.assertIs(type(caught.exception), NoTrail)
        self.assertIsInstance(caught.exception, ValueError)
        self.assertNotIsInstance(caught.exception, (NoDesk, NoWork, NoLine))


class Standing(unittest.TestCase):
    def check_standing(self, many, trail, wanted):
        got = standing(many, trail)
        self.assertEqual(got, wanted)
        self.assertIs(type(got), list)

    def test_nothing_stands_behind_an_empty_trail(self):
        self.check_standing(0, [], [])
        self.check_standing(3, [], [])

    def test_steps_that_are_did_stand_in_order(self):
        self.check_standing(3, [("did", 0)], [0])
        self.check_standing(3, did_up_to(3), [0, 1, 2])

    def test_no_and_unsure_do_not_stand(self):
        self.check_standing(3, [("no", 0)], [])
        self.check_standing(3, [("unsure", 0)], [])
        self.check_standing(3, [("did", 0), ("did", 1), ("no", 2)], [0, 1])
        self.check_standing(3, [("did", 0), ("did", 1), ("unsure", 2)], [0, 1])

    def test_steps_that_are_undid_stand_no_more(self):
        trail = [("did", 0), ("did", 1), ("unsure", 2), ("undid", 2)]
        self.check_standing(3, trail, [0, 1])
        self.check_standing(3, trail + [("undid", 1)], [0])
        self.check_standing(3, trail + [("undid", 1), ("undid", 0)], [])
        self.check_standing(3, [("did", 0), ("did", 1), ("no", 2), ("undid", 1)], [0])

    def test_every_ended_trail_stands_with_all_or_with_none(self):
        for many in (0, 1, 2, 5, 60):
            done = did_up_to(many)
            for ended in ended_trails(many):
                self.check_standing(many, ended, list(range(many)) if ended == done else [])

    def test_refused(self):
        for many, entries in REFUSED:
            with self.subTest(many=many, entries=entries):
                with self.assertRaises(NoTrail):
                    standing(many, entries)


class NothingChangedNothingKept(unittest.TestCase):
    def test_the_trail_is_as_it_was(self):
        for many in range(4):
            for trail in all_trails(many):
                handed = list(trail)
                next_of(many, handed)
                check_trail(many, handed)
                standing(many, handed)
                self.assertEqual(handed, trail)

    def test_a_refused_list_is_as_it_was(self):
        for many, entries in REFUSED:
            for refusing in (check_trail, standing):
                handed = list(entries)
                with self.assertRaises(NoTrail):
                    refusing(many, handed)
                self.assertEqual(handed, entries)

    def test_a_changed_answer_changes_nothing(self):
        trail = did_up_to(3)
        answered = standing(3, trail)
        answered.append(7)
        answered[0] = 9
        self.assertEqual(trail, did_up_to(3))
        self.assertEqual(standing(3, trail), [0, 1, 2])
        standing(2, []).append(5)
        self.assertEqual(standing(2, []), [])

    def test_a_trail_changed_later_changes_no_answer(self):
        trail = did_up_to(2)
        answered = standing(3, trail)
        trail.append(("no", 2))
        trail.append(("undid", 1))
        self.assertEqual(answered, [0, 1])
        self.assertEqual(next_of(3, trail), ("undo", 0))


if __name__ == "__main__":
    unittest.main()
