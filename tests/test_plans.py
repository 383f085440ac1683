"""Points 2, 3 and 4: plans, plans turned about, small plans."""

import unittest

from talkplans.errors import BadPlan
from talkplans.plans import need_plan, small, turned
from tests import helper
from tests.helper import END


def made_plans():
    """Plans of all sizes; few words, so that many stops are alike."""
    dice = helper.Dice(4)
    for words in (["a"], ["a", "b"], helper.WORDS):
        for stops in range(1, 13):
            for _ in range(25):
                yield helper.made_plan(dice, stops, words)


class Plans(unittest.TestCase):
    def test_good_ones(self):
        for plan in helper.good_plans():
            self.assertIsNone(need_plan(plan))
        for plan in made_plans():
            self.assertIsNone(need_plan(plan))

    def test_each_kind_of_stop(self):
        for stop in (END, ("send", (("a", 0),)), ("get", (("a", 0),))):
            self.assertIsNone(need_plan([stop]))
        for stop in (("stop",), ("flip", 0), ("jump", 0), ("send", "a"), ("end", ()), ("send",), ("get",)):
            with self.assertRaises(BadPlan):
                need_plan([stop])

    def test_one_stop_to_twelve(self):
        for many in range(1, 13):
            need_plan([END] * many)
        for many in (0, 13, 14, 240):
            with self.assertRaises(BadPlan):
                need_plan([END] * many)

    def test_one_way_to_six(self):
        for kind in ("send", "get"):
            for many in range(1, 7):
                need_plan([(kind, tuple((word, 0) for word in "abcdef"[:many]))])
            for many in (0, 7):
                with self.assertRaises(BadPlan):
                    need_plan([(kind, tuple((word, 0) for word in "abcdefg"[:many]))])

    def test_words_of_one_sign_to_eight_from_a_to_z(self):
        for word in list("abcdefghijklmnopqrstuvwxyz") + ["z" * many for many in range(1, 9)]:
            need_plan([("send", ((word, 0),))])
        for word in ("", "z" * 9, "A", "aZ", "a1", "a-b", "a ", "`", "{", "\u00e9", "\u00df", "\u0131", "a\n"):
            with self.assertRaises(BadPlan):
                need_plan([("send", ((word, 0),))])

    def test_words_rise_as_texts_do(self):
        need_plan([("get", (("a", 0), ("aa", 0), ("ab", 0), ("abc", 0), ("b", 0), ("ba", 0)))])
        for words in (["aa", "a"], ["b", "ab"], ["a", "a"], ["a", "b", "b"], ["a", "b", "a"]):
            with self.assertRaises(BadPlan):
                need_plan([("get", tuple((word, 0) for word in words))])

    def test_ways_lead_to_stops_that_there_are(self):
        for many in range(1, 13):
            for behind in range(many):
                need_plan([("send", (("a", behind),))] + [END] * (many - 1))
            for behind in (many, many + 1, -1, -many, True, False, None, 0.0, "0"):
                with self.assertRaises(BadPlan):
                    need_plan([("send", (("a", behind),))] + [END] * (many - 1))

    def test_wrong_stops_anywhere(self):
        for wrong in (None, ["end"], ("END",), ("send", (("a", 12),)), ("get", ())):
            for at in range(12):
                plan = [END] * 12
                plan[at] = wrong
                with self.assertRaises(BadPlan):
                    need_plan(plan)


class Turned(unittest.TestCase):
    def test_get_for_send_and_send_for_get(self):
        plan = [("send", (("ask", 1), ("bye", 2))), ("get", (("no", 0), ("yes", 0))), END]
        self.assertEqual(turned(plan), [("get", (("ask", 1), ("bye", 2))), ("send", (("no", 0), ("yes", 0))), END])

    def test_all_else_stays(self):
        for plan in made_plans():
            told = turned(plan)
            need_plan(told)
            self.assertEqual([stop[1:] for stop in told], [stop[1:] for stop in plan])
            for stop, other in zip(plan, told):
                self.assertIn((stop[0], other[0]), [("send", "get"), ("get", "send"), ("end", "end")])

    def test_twice(self):
        for plan in list(made_plans()) + helper.good_plans():
            self.assertEqual(turned(turned(plan)), plan)


def fewest(plan):
    """How many stops that one can come to are not alike."""
    found = []
    for at in helper.stops_come_to(plan):
        if not any(helper.are_alike(plan, plan, at, known) for known in found):
            found.append(at)
    return len(found)


class Small(unittest.TestCase):
    def test_stops_that_nobody_comes_to_are_left_out(self):
        self.assertEqual(small([END, END, ("send", (("a", 1),))]), [END])
        self.assertEqual(small([("send", (("a", 2),)), ("get", (("b", 0),)), END]), [("send", (("a", 1),)), END])

    def test_stops_that_are_alike_become_one(self):
        plan = [("send", (("a", 1), ("b", 2))), END, END]
        self.assertEqual(small(plan), [("send", (("a", 1), ("b", 1))), END])
        round_about = [("send", (("a", 1),)), ("send", (("a", 2),)), ("send", (("a", 0),))]
        self.assertEqual(small(round_about), [("send", (("a", 0),))])

    def test_a_way_back_to_an_earlier_stop(self):
        plan = [("send", (("a", 1),)), ("get", (("b", 2),)), ("send", (("a", 3),)), ("get", (("b", 0),))]
        self.assertEqual(small(plan), [("send", (("a", 1),)), ("get", (("b", 0),))])

    def test_stops_that_differ_only_far_off_stay_apart(self):
        line = [("send", (("a", at + 1),)) for at in range(11)]
        self.assertEqual(small(line + [END]), line + [END])
        self.assertEqual(small(line + [("send", (("a", 0),))]), [("send", (("a", 0),))])
        self.assertEqual(small(line + [("get", (("a", 0),))]), line + [("get", (("a", 0),))])
        self.assertEqual(len(small(line + [("send", (("b", 11),))])), 12)
        self.assertEqual(len(small(line + [("send", (("a", 0), ("b", 0)))])), 12)

    def test_stops_stand_as_they_are_first_come_to(self):
        plan = [("send", (("a", 3), ("b", 1))), ("get", (("x", 0),)), END, ("get", (("y", 4), ("z", 2))),
                ("send", (("c", 1),))]
        self.assertEqual(small(plan), [("send", (("a", 1), ("b", 2))), ("get", (("y", 3), ("z", 4))),
                                       ("get", (("x", 0),)), ("send", (("c", 2),)), END])

    def test_stop_by_stop_and_not_ways_down_first(self):
        plan = [("send", (("a", 1), ("b", 2))), ("send", (("c", 3),)), ("get", (("d", 0),)), END]
        self.assertEqual(small(plan), plan)

    def test_alike_with_the_fewest_stops_in_their_order(self):
        for plan in list(made_plans()) + helper.good_plans():
            told = small(plan)
            need_plan(told)
            self.assertTrue(helper.are_alike(plan, told))
            self.assertEqual(len(told), fewest(plan))
            self.assertEqual(helper.stops_come_to(told), list(range(len(told))))
            self.assertEqual(small(told), told)

    def test_plans_that_are_alike_have_the_same_small_plan(self):
        for plan in made_plans():
            moved = [stop if stop == END else (stop[0], tuple((word, 11 - behind) for word, behind in stop[1]))
                     for stop in reversed(plan)]
            padded = [END] * (12 - len(plan)) + moved
            # Stop 0 stands last now; it is put first by changing places with the one that is there.
            change = {0: 11, 11: 0}
            padded[0], padded[11] = padded[11], padded[0]
            padded = [stop if stop == END else
                      (stop[0], tuple((word, change.get(behind, behind)) for word, behind in stop[1]))
                      for stop in padded]
            self.assertTrue(helper.are_alike(plan, padded))
            self.assertEqual(small(plan), small(padded))


if __name__ == "__main__":
    unittest.main()
