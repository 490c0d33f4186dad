import unittest

from trailbook.desks import Desk, told_all

HUGE = 10 ** 100 - 1


def do(work, step, thing, many):
    return ("do", work, step, thing, many)


def undo(work, step, thing, many):
    return ("undo", work, step, thing, many)


class DeskCase(unittest.TestCase):
    def check_told(self, desk, requests, wanted):
        got = told_all(desk, requests)
        self.assertEqual(got, wanted)
        self.assertIs(type(got), list)


class Has(DeskCase):
    def test_things_that_are_told_of(self):
        desk = Desk({"rope": 3, "nail": 0, "plank": 12})
        self.assertEqual(desk.has("rope"), 3)
        self.assertEqual(desk.has("nail"), 0)
        self.assertEqual(desk.has("plank"), 12)

    def test_nought_of_a_thing_that_is_not_told_of(self):
        self.assertEqual(Desk({}).has("rope"), 0)
        self.assertEqual(Desk({"rope": 3}).has("Rope"), 0)
        self.assertEqual(Desk({"rope": 3}).has(""), 0)

    def test_asking_changes_nothing(self):
        desk = Desk({"rope": 3})
        self.assertEqual([desk.has("rope"), desk.has("rope"), desk.has("nail"), desk.has("nail")], [3, 3, 0, 0])

    def test_the_empty_text_is_a_thing(self):
        self.assertEqual(Desk({"": 4}).has(""), 4)

    def test_numbers_of_many_figures(self):
        self.assertEqual(Desk({"rope": HUGE}).has("rope"), HUGE)


class Do(DeskCase):
    def test_enough(self):
        desk = Desk({"rope": 5, "nail": 2})
        self.check_told(desk, [do("hut", 0, "rope", 3)], ["did"])
        self.assertEqual(desk.has("rope"), 2)
        self.assertEqual(desk.has("nail"), 2)

    def test_just_enough(self):
        desk = Desk({"rope": 5})
        self.check_told(desk, [do("hut", 0, "rope", 5)], ["did"])
        self.assertEqual(desk.has("rope"), 0)

    def test_too_few(self):
        desk = Desk({"rope": 5})
        self.check_told(desk, [do("hut", 0, "rope", 6)], ["no"])
        self.assertEqual(desk.has("rope"), 5)

    def test_nought(self):
        desk = Desk({"rope": 5, "nail": 0})
        requests = [do("hut", 0, "rope", 0), do("hut", 1, "nail", 0), do("hut", 2, "plank", 0)]
        self.check_told(desk, requests, ["did", "did", "did"])
        self.assertEqual([desk.has("rope"), desk.has("nail"), desk.has("plank")], [5, 0, 0])

    def test_a_thing_that_is_not_told_of(self):
        desk = Desk({"rope": 5})
        self.check_told(desk, [do("hut", 0, "nail", 1)], ["no"])
        self.assertEqual([desk.has("rope"), desk.has("nail")], [5, 0])

    def test_a_key_that_is_did_takes_once(self):
        desk = Desk({"rope": 5})
        self.check_told(desk, [do("hut", 0, "rope", 2)] * 3, ["did", "did", "did"])
        self.assertEqual(desk.has("rope"), 3)

    def test_a_key_that_is_did_is_answered_so_when_nothing_is_left(self):
        desk = Desk({"rope": 2})
        self.check_told(desk, [do("hut", 0, "rope", 2)] * 2, ["did", "did"])
        self.assertEqual(desk.has("rope"), 0)

    def test_a_key_that_is_no_stays_no(self):
        desk = Desk({"rope": 1})
        self.check_told(desk, [do("hut", 0, "rope", 2)] * 2, ["no", "no"])
        self.assertEqual(desk.has("rope"), 1)

    def test_a_key_that_is_no_stays_no_when_there_is_enough_later(self):
        desk = Desk({"rope": 5})
        requests = [
            do("barn", 0, "rope", 4),
            do("hut", 0, "rope", 2),
            undo("barn", 0, "rope", 4),
            do("hut", 0, "rope", 2),
        ]
        self.check_told(desk, requests, ["did", "no", "undid", "no"])
        self.assertEqual(desk.has("rope"), 5)

    def test_a_key_that_is_undid_is_answered_no(self):
        desk = Desk({"rope": 5})
        requests = [do("hut", 0, "rope", 2), undo("hut", 0, "rope", 2), do("hut", 0, "rope", 2)]
        self.check_told(desk, requests, ["did", "undid", "no"])
        self.assertEqual(desk.has("rope"), 5)


class Undo(DeskCase):
    def test_a_key_that_is_did_is_put_back(self):
        desk = Desk({"rope": 5, "nail": 1})
        self.check_told(desk, [do("hut", 0, "rope", 5)], ["did"])
        self.assertEqual(desk.has("rope"), 0)
        self.check_told(desk, [undo("hut", 0, "rope", 5)], ["undid"])
        self.assertEqual([desk.has("rope"), desk.has("nail")], [5, 1])

    def test_a_key_that_is_no_puts_nothing_back(self):
        desk = Desk({"rope": 1})
        self.check_told(desk, [do("hut", 0, "rope", 2), undo("hut", 0, "rope", 2)], ["no", "undid"])
        self.assertEqual(desk.has("rope"), 1)

    def test_a_key_that_is_undid_puts_nothing_back_again(self):
        desk = Desk({"rope": 5})
        requests = [do("hut", 0, "rope", 2)] + [undo("hut", 0, "rope", 2)] * 3
        self.check_told(desk, requests, ["did", "undid", "undid", "undid"])
        self.assertEqual(desk.has("rope"), 5)

    def test_a_key_that_never_came_puts_nothing_back(self):
        desk = Desk({"rope": 5})
        self.check_told(desk, [undo("hut", 0, "rope", 2), undo("hut", 1, "nail", 3)], ["undid", "undid"])
        self.assertEqual([desk.has("rope"), desk.has("nail")], [5, 0])

    def test_a_do_behind_its_undo_takes_nothing(self):
        desk = Desk({"rope": 5})
        requests = [undo("hut", 0, "rope", 2), do("hut", 0, "rope", 2), do("hut", 0, "rope", 2)]
        self.check_told(desk, requests, ["undid", "no", "no"])
        self.assertEqual(desk.has("rope"), 5)

    def test_a_late_do_leaves_the_key_undid(self):
        desk = Desk({"rope": 5})
        requests = [
            do("hut", 0, "rope", 2),
            undo("hut", 0, "rope", 2),
            do("hut", 0, "rope", 2),
            undo("hut", 0, "rope", 2),
            do("hut", 0, "rope", 2),
        ]
        self.check_told(desk, requests, ["did", "undid", "no", "undid", "no"])
        self.assertEqual(desk.has("rope"), 5)

    def test_a_do_behind_the_undo_of_a_no_takes_nothing(self):
        desk = Desk({"rope": 3})
        requests = [
            do("barn", 0, "rope", 2),
            do("hut", 0, "rope", 2),
            undo("hut", 0, "rope", 2),
            undo("barn", 0, "rope", 2),
            do("hut", 0, "rope", 2),
        ]
        self.check_told(desk, requests, ["did", "no", "undid", "undid", "no"])
        self.assertEqual(desk.has("rope"), 3)

    def test_what_is_put_back_can_be_taken_by_another_key(self):
        desk = Desk({"rope": 2})
        requests = [do("hut", 0, "rope", 2), undo("hut", 0, "rope", 2), do("hut", 1, "rope", 2)]
        self.check_told(desk, requests, ["did", "undid", "did"])
        self.assertEqual(desk.has("rope"), 0)


class Keys(DeskCase):
    def test_work_and_step_together_are_the_key(self):
        desk = Desk({"rope": 10})
        requests = [
            do("hut", 0, "rope", 1),
            do("hut", 1, "rope", 1),
            do("barn", 0, "rope", 1),
            do("barn", 1, "rope", 1),
            undo("hut", 1, "rope", 1),
            do("hut", 0, "rope", 1),
            do("hut", 1, "rope", 1),
            do("barn", 1, "rope", 1),
        ]
        self.check_told(desk, requests, ["did", "did", "did", "did", "undid", "did", "no", "did"])
        self.assertEqual(desk.has("rope"), 7)

    def test_keys_that_are_written_alike_are_still_two(self):
        desk = Desk({"rope": 10})
        self.check_told(desk, [do("hut1", 2, "rope", 1), do("hut", 12, "rope", 1)], ["did", "did"])
        self.assertEqual(desk.has("rope"), 8)

    def test_the_empty_text_as_a_name_and_as_a_thing(self):
        desk = Desk({"": 3})
        requests = [do("", 0, "", 2), do("", 1, "", 2), do("", 0, "", 2)]
        self.check_told(desk, requests, ["did", "no", "did"])
        self.assertEqual(desk.has(""), 1)
        self.check_told(desk, [undo("", 0, "", 2), do("", 0, "", 2)], ["undid", "no"])
        self.assertEqual(desk.has(""), 3)

    def test_each_desk_keeps_its_own_keys_and_things(self):
        things = {"rope": 5}
        first = Desk(things)
        second = Desk(things)
        self.check_told(first, [do("hut", 0, "rope", 2)], ["did"])
        self.assertEqual([first.has("rope"), second.has("rope")], [3, 5])
        self.check_told(second, [undo("hut", 0, "rope", 2)], ["undid"])
        self.check_told(first, [do("hut", 0, "rope", 2)], ["did"])
        self.check_told(second, [do("hut", 0, "rope", 2)], ["no"])
        self.assertEqual([first.has("rope"), second.has("rope")], [3, 5])


class Sizes(DeskCase):
    def test_numbers_of_many_figures(self):
        desk = Desk({"rope": HUGE})
        self.check_told(desk, [do("hut", 0, "rope", HUGE - 1)], ["did"])
        self.assertEqual(desk.has("rope"), 1)
        self.check_told(desk, [do("hut", 1, "rope", 2)], ["no"])
        self.check_told(desk, [undo("hut", 0, "rope", HUGE - 1)], ["undid"])
        self.assertEqual(desk.has("rope"), HUGE)
        self.check_told(desk, [do("hut", 2, "rope", HUGE + 1), do("hut", 3, "rope", HUGE)], ["no", "did"])
        self.assertEqual(desk.has("rope"), 0)

    def test_a_step_of_many_figures(self):
        desk = Desk({"rope": 3})
        requests = [do("hut", HUGE, "rope", 1), do("hut", HUGE - 1, "rope", 1), do("hut", HUGE, "rope", 1)]
        self.check_told(desk, requests, ["did", "did", "did"])
        self.assertEqual(desk.has("rope"), 1)

    def test_no_requests(self):
        desk = Desk({"rope": 3})
        self.check_told(desk, [], [])
        self.assertEqual(desk.has("rope"), 3)

    def test_two_hundred_and_fifty_requests_and_somewhat_more(self):
        for length in (250, 300):
            desk = Desk({"rope": 240})
            requests = [do("hut", step, "rope", 1) for step in range(length)]
            self.check_told(desk, requests, ["did"] * 240 + ["no"] * (length - 240))
            self.assertEqual(desk.has("rope"), 0)
            requests = [undo("hut", step, "rope", 1) for step in range(length)]
            self.check_told(desk, requests, ["undid"] * length)
            self.assertEqual(desk.has("rope"), 240)


class NothingChangedNothingKept(DeskCase):
    def test_the_dict_is_as_it_was(self):
        things = {"rope": 5, "nail": 0}
        desk = Desk(things)
        told_all(desk, [do("hut", 0, "rope", 2), do("hut", 1, "plank", 0), do("hut", 2, "nail", 1)])
        told_all(desk, [undo("hut", 3, "glue", 1)])
        self.assertEqual(things, {"rope": 5, "nail": 0})
        self.assertEqual(desk.has("rope"), 3)

    def test_a_dict_changed_later_changes_nothing(self):
        things = {"rope": 5, "nail": 1}
        desk = Desk(things)
        things["rope"] = 0
        things["plank"] = 9
        del things["nail"]
        self.assertEqual([desk.has("rope"), desk.has("nail"), desk.has("plank")], [5, 1, 0])
        self.check_told(desk, [do("hut", 0, "rope", 5), do("hut", 1, "plank", 1)], ["did", "no"])

    def test_the_requests_are_as_they_were(self):
        requests = [do("hut", 0, "rope", 2), undo("hut", 0, "rope", 2), do("hut", 1, "rope", 9)]
        handed = list(requests)
        told_all(Desk({"rope": 5}), handed)
        self.assertEqual(handed, requests)

    def test_requests_changed_later_change_nothing(self):
        desk = Desk({"rope": 5})
        requests = [do("hut", 0, "rope", 2)]
        answered = told_all(desk, requests)
        requests[0] = undo("hut", 0, "rope", 2)
        requests.append(do("hut", 1, "rope", 2))
        self.assertEqual(answered, ["did"])
        self.assertEqual(desk.has("rope"), 3)
        self.check_told(desk, [do("hut", 0, "rope", 2)], ["did"])

    def test_a_changed_answer_changes_nothing(self):
        desk = Desk({"rope": 5})
        requests = [do("hut", 0, "rope", 2), do("hut", 1, "rope", 9)]
        answered = told_all(desk, requests)
        answered[0] = "undid"
        answered.append("did")
        self.assertEqual(desk.has("rope"), 3)
        self.check_told(desk, requests, ["did", "no"])

    def test_asking_one_by_one_answers_the_same(self):
        requests = [
            do("hut", 0, "rope", 4),
            do("hut", 1, "rope", 4),
            undo("hut", 0, "rope", 4),
            do("hut", 1, "rope", 4),
            do("hut", 0, "rope", 4),
        ]
        desk = Desk({"rope": 5})
        one_by_one = [told_all(desk, [request])[0] for request in requests]
        self.check_told(Desk({"rope": 5}), requests, one_by_one)
        self.assertEqual(one_by_one, ["did", "no", "undid", "no", "no"])


if __name__ == "__main__":
    unittest.main()
