"""Point 1: nothing handed in is changed, and what is told is the asker's own."""

import copy
import unittest

from talkplans.errors import TalkError
from talkplans.plans import need_plan, small, turned
from talkplans.programs import broken, followed, keeps, need_program
from tests import helper


def programs_about(plan):
    """Programs that keep the plan and programs that don't."""
    good = followed(plan)
    return [good, [("jump", 0)], [("flip", 1), ("jump", 0)], [("send", "nobody"), ("end",)],
            [("flip", 1)] + [("jump", 2)] + [helper.END]]


class NothingHandedInIsChanged(unittest.TestCase):
    def test_plans(self):
        for plan in helper.good_plans():
            before = copy.deepcopy(plan)
            for asked in (need_plan, turned, small, followed):
                asked(plan)
                self.assertEqual(plan, before)

    def test_programs_with_plans(self):
        for plan in helper.good_plans():
            for program in programs_about(plan):
                before = copy.deepcopy((program, plan))
                need_program(program)
                keeps(program, plan)
                broken(program, plan)
                self.assertEqual((program, plan), before)

    def test_what_is_refused(self):
        plan = [("send", (("a", 1),)), ["end"]]
        program = [("send", "a"), ["end"]]
        for asked in (lambda: need_plan(plan), lambda: need_program(program), lambda: keeps(program, plan)):
            with self.assertRaises(TalkError):
                asked()
        self.assertEqual(plan, [("send", (("a", 1),)), ["end"]])
        self.assertEqual(program, [("send", "a"), ["end"]])


class WhatIsToldIsTheAskersOwn(unittest.TestCase):
    def held(self, asked, *handed):
        before = copy.deepcopy(handed)
        first = asked(*handed)
        kept = copy.deepcopy(first)
        self.assertIsNot(first, asked(*handed))
        first.append(("flip", 7))
        first[0] = None
        first.reverse()
        self.assertEqual(asked(*handed), kept)
        first.clear()
        self.assertEqual(asked(*handed), kept)
        self.assertEqual(handed, before)

    def test_plans_and_programs(self):
        for plan in helper.good_plans():
            for asked in (turned, small, followed):
                self.held(asked, plan)

    def test_choices(self):
        for plan in helper.good_plans():
            for program in programs_about(plan):
                if broken(program, plan) is not None:
                    self.held(broken, program, plan)

    def test_what_was_told_stays_when_others_are_asked_and_the_owner_changes_his(self):
        plan = [("send", (("a", 1), ("b", 1))), ("end",)]
        told = [turned(plan), small(plan), followed(plan), broken([("flip", 0), ("end",)], plan)]
        kept = copy.deepcopy(told)
        plan[0] = ("get", (("a", 0),))
        for other in helper.good_plans():
            turned(other), small(other), followed(other), broken([("flip", 0), ("end",)], other)
        self.assertEqual(told, kept)


class TheOwnerChangesHis(unittest.TestCase):
    def test_a_plan(self):
        plan = [("send", (("a", 1),)), ("end",)]
        self.assertEqual(turned(plan), [("get", (("a", 1),)), ("end",)])
        self.assertEqual(small(plan), plan)
        program = followed(plan)
        self.assertTrue(keeps(program, plan))
        plan[1] = ("send", (("a", 0),))
        self.assertEqual(turned(plan), [("get", (("a", 1),)), ("get", (("a", 0),))])
        self.assertEqual(small(plan), [("send", (("a", 0),))])
        self.assertFalse(keeps(program, plan))
        self.assertTrue(helper.shows(program, plan, broken(program, plan)))
        self.assertTrue(helper.is_kept(followed(plan), plan))
        plan.append(None)
        for asked in (need_plan, turned, small, followed):
            with self.assertRaises(TalkError):
                asked(plan)
        plan.pop()
        self.assertEqual(small(plan), [("send", (("a", 0),))])

    def test_a_program(self):
        plan = [("get", (("a", 1), ("b", 0))), ("end",)]
        program = [("get", (("a", 1), ("b", 0))), ("end",)]
        self.assertIsNone(broken(program, plan))
        program[1] = ("jump", 1)
        self.assertFalse(keeps(program, plan))
        self.assertEqual(broken(program, plan), ["a"])
        program[1] = ("flip", 0)
        with self.assertRaises(TalkError):
            keeps(program, plan)
        program[1] = ("end",)
        self.assertTrue(keeps(program, plan))


if __name__ == "__main__":
    unittest.main()
