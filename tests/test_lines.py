"""Lines: trails shown and read, point 15."""

import unittest

from trailbook.errors import NoDesk, NoLine, NoTrail, NoWork, TrailError
from trailbook.lines import read, shown

HUGE = 10 ** 100 - 1


def did_up_to(step):
    return [("did", each) for each in range(step)]


def undid_from(step):
    return [("undid", each) for each in range(step, -1, -1)]


def ended_trails(many):
    ended = [did_up_to(many)]
    for step in range(many):
        ended.append(did_up_to(step) + [("no", step)] + undid_from(step - 1))
        ended.append(did_up_to(step) + [("unsure", step)] + undid_from(step))
    return ended


class Shown(unittest.TestCase):
    def check_shown(self, trail, wanted):
        got = shown(trail)
        self.assertEqual(got, wanted)
        self.assertIs(type(got), list)

    def test_each_kind_of_entry(self):
        self.check_shown([("did", 0), ("no", 1)], ["did 0", "no 1"])
        self.check_shown(
            [("did", 0), ("unsure", 1), ("undid", 1), ("undid", 0)],
            ["did 0", "unsure 1", "undid 1", "undid 0"],
        )

    def test_no_entries(self):
        self.check_shown([], [])

    def test_steps_of_several_figures(self):
        self.check_shown(did_up_to(120), ["did " + str(step) for step in range(120)])
        self.assertEqual(shown(did_up_to(101))[100], "did 100")


class Read(unittest.TestCase):
    def check_read(self, many, lines, wanted):
        got = read(many, lines)
        self.assertEqual(got, wanted)
        self.assertIs(type(got), list)
        self.assertEqual([type(entry) for entry in got], [tuple] * len(got))

    def test_each_kind_of_entry(self):
        self.check_read(2, ["did 0", "no 1"], [("did", 0), ("no", 1)])
        self.check_read(
            3, ["did 0", "unsure 1", "undid 1", "undid 0"],
            [("did", 0), ("unsure", 1), ("undid", 1), ("undid", 0)],
        )

    def test_no_lines_at_all(self):
        self.check_read(0, [], [])
        self.check_read(3, [], [])
        self.check_read(HUGE, [], [])

    def test_a_trail_that_has_not_ended(self):
        self.check_read(3, ["did 0"], [("did", 0)])
        self.check_read(3, ["did 0", "did 1", "no 2"], [("did", 0), ("did", 1), ("no", 2)])

    def test_steps_of_several_figures(self):
        lines = ["did " + str(step) for step in range(101)] + ["unsure 101", "undid 101", "undid 100"]
        self.check_read(102, lines, did_up_to(101) + [("unsure", 101), ("undid", 101), ("undid", 100)])

    def test_a_work_of_a_hundred_figures_of_steps(self):
        self.check_read(HUGE, ["did 0", "did 1"], [("did", 0), ("did", 1)])

    def test_two_hundred_and_fifty_lines_and_somewhat_more(self):
        for many in (250, 300):
            self.check_read(many, ["did " + str(step) for step in range(many)], did_up_to(many))

    def test_what_is_shown_is_read_to_the_same(self):
        for many in (0, 1, 2, 5, 12, 60):
            for ended in ended_trails(many):
                for length in range(len(ended) + 1) if many < 20 else [len(ended)]:
                    trail = ended[:length]
                    self.check_read(many, shown(trail), trail)


NO_LINES = [
    # no word, no step, nothing
    "", " ", "0", " 0", "did", "did ", "no", "unsure", "undid ", "\n",
    # another word
    "done 0", "do 0", "undo 0", "end 0", "dids 0", "di 0", "und 0", "nO 0", "sure 0", "did-0", "did0", "x 0",
    "did,no 0", "did no 0", "end done",
    # capitals
    "Did 0", "DID 0", "No 0", "NO 0", "Unsure 0", "UNSURE 0", "Undid 0", "unDid 0",
    # a step that is no number
    "did x", "did zero", "did 0x1", "did 1a", "did a1", "did 1.0", "did 0.", "did 1e1", "did 1_0", "did 1,0",
    "did None",
    # a sign ahead of the step
    "did -0", "did +0", "did -1", "did +1", "undid -1", "did --1",
    # a nought ahead of other figures
    "did 00", "did 01", "did 000", "did 007", "did 010", "no 00", "undid 00",
    # figures that are not 0 to 9
    "did \u0660", "did \u0661", "did 1\u0661", "did \u06611", "did \u00b2", "did \u2460", "did \uff10", "did \uff11",
    "did \u0966", "did \u00bd", "did \u4e00", "did \U0001d7ce",
    # more than one blank, or another sign in its place
    "did  0", "did   0", "did\t0", "did\n0", "did\u00a00", "did \t0", "did _0", "did 0 0", "did 1 0", "did 0 1",
    "did 1  0",
    # something ahead or behind
    " did 0", "\tdid 0", "\ndid 0", "did 0 ", "did 0\n", "did 0\t", "did 0\r", "did 0\r\n", "\ufeffdid 0", "did 0;",
    "did 0\u00a0", "did 0\x00", "(did, 0)", "'did 0'", "did 0\nno 1", "did 0 no 1",
]


class RefusedWithNoLine(unittest.TestCase):
    def check_no_line(self, many, lines):
        with self.subTest(many=many, lines=lines):
            with self.assertRaises(NoLine):
                read(many, lines)

    def test_lines_that_are_the_writing_of_no_entry(self):
        for line in NO_LINES:
            self.check_no_line(3, [line])

    def test_every_sign_that_is_no_figure(self):
        for sign in [chr(number) for number in range(256) if chr(number) not in "0123456789"]:
            for figures in (sign, sign + "1", "1" + sign, "1" + sign + "0"):
                self.check_no_line(3, ["did " + figures])
            self.check_no_line(3, ["did" + sign + " 0"])
            self.check_no_line(3, [sign + "did 0"])

    def test_behind_good_lines_and_ahead_of_them(self):
        for line in NO_LINES:
            self.check_no_line(3, ["did 0", "did 1", line])
            self.check_no_line(3, ["did 0", line, "did 1"])
            self.check_no_line(3, [line, "did 0"])

    def test_also_where_another_line_cannot_stand(self):
        for line in NO_LINES:
            self.check_no_line(3, ["did 7", line])
            self.check_no_line(3, [line, "did 7"])
            self.check_no_line(3, ["undid 0", "did 0", line, "undid 5"])
            self.check_no_line(0, ["did 0", line])

    def test_also_behind_the_end(self):
        for line in NO_LINES:
            self.check_no_line(1, ["did 0", line])
            self.check_no_line(0, [line])

    def test_the_refusal_is_no_other_one(self):
        with self.assertRaises(TrailError) as caught:
            read(1, ["did"])
        self.assertIs(type(caught.exception), NoLine)
        self.assertNotIsInstance(caught.exception, (NoTrail, NoDesk, NoWork))


class RefusedWithNoTrail(unittest.TestCase):
    def check_no_trail(self, many, lines):
        with self.subTest(many=many, lines=[line[:20] for line in lines]):
            with self.assertRaises(NoTrail):
                read(many, lines)

    def test_entries_that_are_no_trail(self):
        for many, lines in (
            (0, ["did 0"]),
            (0, ["no 0"]),
            (0, ["unsure 0"]),
            (0, ["undid 0"]),
            (1, ["did 1"]),
            (1, ["undid 0"]),
            (1, ["did 0", "did 1"]),
            (1, ["did 0", "undid 0"]),
            (2, ["did 0", "did 0"]),
            (2, ["did 1", "did 0"]),
            (2, ["no 0", "undid 0"]),
            (2, ["did 0", "no 1", "undid 1"]),
            (2, ["did 0", "unsure 1", "undid 0"]),
            (2, ["unsure 0", "undid 0", "did 0"]),
            (2, ["did 0", "did 1", "no 2"]),
            (3, ["did 0", "did 2", "did 1"]),
        ):
            self.check_no_trail(many, lines)

    def test_steps_of_many_figures(self):
        for figures in (2, 20, 100, 101, 4300, 4301, 6000):
            for word in ("did", "no", "unsure", "undid"):
                self.check_no_trail(3, [word + " " + "9" * figures])
                self.check_no_trail(3, ["did 0", word + " 1" + "0" * figures])
                self.check_no_trail(HUGE, [word + " 1" + "0" * figures])

    def test_each_figure_counts(self):
        # Of 123 as the step to come next, no other order and no part will do.
        ahead = ["did " + str(step) for step in range(123)]
        self.assertEqual(read(200, ahead + ["did 123"])[-1], ("did", 123))
        for figures in ("321", "132", "213", "12", "23", "1", "3", "1234", "124", "122", "223", "1123"):
            self.check_no_trail(2000, ahead + ["did " + figures])

    def test_every_figure_is_read(self):
        for step in (*range(10), 45, 67, 89, 90):
            ahead = ["did " + str(each) for each in range(step)]
            self.assertEqual(read(100, ahead + [f"no {step}"])[-1], ("no", step))

    def test_the_refusal_is_no_other_one(self):
        with self.assertRaises(TrailError) as caught:
            read(1, ["did 1"])
        self.assertIs(type(caught.exception), NoTrail)
        self.assertNotIsInstance(caught.exception, (NoLine, NoDesk, NoWork))


class NothingChangedNothingKept(unittest.TestCase):
    trail = [("did", 0), ("unsure", 1), ("undid", 1)]
    lines = ["did 0", "unsure 1", "undid 1"]

    def test_what_was_handed_in_is_as_it_was(self):
        trail = list(self.trail)
        lines = list(self.lines)
        shown(trail)
        read(2, lines)
        self.assertEqual(trail, self.trail)
        self.assertEqual(lines, self.lines)

    def test_refused_lines_are_as_they_were(self):
        for lines, refusal in ((["did 1", "did 0"], NoTrail), (["did 0", "did"], NoLine)):
            handed = list(lines)
            with self.assertRaises(refusal):
                read(2, handed)
            self.assertEqual(handed, lines)

    def test_changed_later_changes_nothing(self):
        trail = list(self.trail)
        lines = list(self.lines)
        got_lines = shown(trail)
        got_trail = read(2, lines)
        trail.clear()
        lines.append("undid 0")
        self.assertEqual(got_lines, self.lines)
        self.assertEqual(got_trail, self.trail)

    def test_a_changed_answer_changes_nothing(self):
        trail = list(self.trail)
        lines = list(self.lines)
        shown(trail).clear()
        read(2, lines).clear()
        shown([]).append("did 0")
        read(2, []).append(("did", 0))
        self.assertEqual(shown(trail), self.lines)
        self.assertEqual(read(2, lines), self.trail)
        self.assertEqual(shown([]), [])
        self.assertEqual(read(2, []), [])


if __name__ == "__main__":
    unittest.main()
