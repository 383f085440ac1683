"""Point 1: nothing handed in is changed, and what is told is the asker's own."""

import copy
import unittest

from talkplans.errors import TalkError
from talkplans.fitting import fits, most_letters, sticking
from talkplans.machine import run
from talkplans.plans import need_plan, small, turned
from talkplans.programs import broken, followed, keeps, need_program
from talkplans.standing import alike, partner, stands_for
from tests import helper

OF_TWO_PLANS = (fits, sticking, most_letters, stands_for, partner, alike)
TURNS = [0, 2, 1, 1, 0, 10 ** 30, 3, 5, 2, 2, 0, 1, 1]


def programs_about(plan):
    """Programs that keep the plan and programs that don't."""
    good = followed(plan)
    return [good, [("jump", 0)], [("flip", 1), ("jump", 0)], [("send", "nobody"), ("end",)],
            [("flip", 1)] + [("jump", 2)] + [helper.END]]


class NothingHandedInIsChanged(unittest.TestCase):
    def test_plans(self):
        for plan in helper.good_plans():
            before = copy.deepcopy(plan)
            for asked in (need_plan, turned, small, followed):
                asked(plan)
                self.assertEqual(plan, before)

    def test_programs_with_plans(self):
        for plan in helper.good_plans():
            for program in programs_about(plan):
                before = copy.deepcopy((program, plan))
                need_program(program)
                keeps(program, plan)
                broken(program, plan)
                self.assertEqual((program, plan), before)

    def test_two_plans(self):
        for one, other in helper.pairs_of_plans(1, 40):
            before = copy.deepcopy((one, other))
            for asked in OF_TWO_PLANS:
                if asked != most_letters or fits(one, other):
                    asked(one, other)
                    self.assertEqual((one, other), before)
            with self.assertRaises(TalkError):
                most_letters(one, other + [None])
            with self.assertRaises(TalkError):
                most_letters([("get", (("a", 0),))], one if one[0][0] != "send" else turned(one))
            self.assertEqual((one, other), before)

    def test_talks(self):
        for one, other in helper.pairs_of_plans(1, 40):
            programs = followed(one), followed(other)
            turns = list(TURNS)
            before = copy.deepcopy(programs)
            run(*programs, turns)
            run(programs[0], programs[0], turns)
            self.assertEqual((programs, turns), (before, TURNS))

    def test_what_is_refused(self):
        turns = [0, 1, True]
        for programs in (([helper.END], [helper.END]), ([helper.END], [["end"]]), ([["end"]], [helper.END])):
            before = copy.deepcopy(programs)
            with self.assertRaises(TalkError):
                run(*programs, turns)
            self.assertEqual((programs, repr(turns)), (before, "[0, 1, True]"))
        plan = [("send", (("a", 1),)), ["end"]]
        program = [("send", "a"), ["end"]]
        for asked in (lambda: need_plan(plan), lambda: need_program(program), lambda: keeps(program, plan)):
            with self.assertRaises(TalkError):
                asked()
        self.assertEqual(plan, [("send", (("a", 1),)), ["end"]])
        self.assertEqual(program, [("send", "a"), ["end"]])


class WhatIsToldIsTheAskersOwn(unittest.TestCase):
    def held(self, asked, *handed):
        before = copy.deepcopy(handed)
        first = asked(*handed)
        kept = copy.deepcopy(first)
        self.assertIsNot(first, asked(*handed))
        first.append(("flip", 7))
        first[0] = None
        first.reverse()
        self.assertEqual(asked(*handed), kept)
        first.clear()
        self.assertEqual(asked(*handed), kept)
        self.assertEqual(handed, before)

    def test_plans_and_programs(self):
        for plan in helper.good_plans():
            for asked in (turned, small, followed):
                self.held(asked, plan)

    def test_choices(self):
        for plan in helper.good_plans():
            for program in programs_about(plan):
                if broken(program, plan) is not None:
                    self.held(broken, program, plan)

    def test_turns_and_partners(self):
        found = {sticking: 0, partner: 0}
        for one, other in helper.pairs_of_plans(2, 60):
            for asked in found:
                if asked(one, other):
                    self.held(asked, one, other)
                    found[asked] += 1
        self.assertGreater(min(found.values()), 50)

    def test_what_was_sent_and_got(self):
        for one, other in helper.pairs_of_plans(3, 40):
            programs = (followed(one), followed(other))
            turns = list(TURNS)
            first = run(*programs, turns)
            kept = copy.deepcopy(first)
            self.assertIsNot(first[1], run(*programs, turns)[1])
            first[1].append(("sent", 0, "a"))
            first[1].reverse()
            self.assertEqual(run(*programs, turns), kept)
            second = run(*programs, turns)
            turns.clear()
            programs[0].clear()
            self.assertEqual(second, kept)

    def test_what_was_told_stays_when_others_are_asked_and_the_owner_changes_his(self):
        plan = [("send", (("a", 1), ("b", 1))), ("end",)]
        facing = [("get", (("a", 1), ("b", 1))), ("send", (("a", 1),))]
        told = [turned(plan), small(plan), followed(plan), broken([("flip", 0), ("end",)], plan),
                sticking(plan, facing), partner(plan, facing), partner(plan, [("end",)]),
                run(followed(plan), followed(facing), [0, 0, 0, 0, 1, 1])]
        kept = copy.deepcopy(told)
        plan[0] = ("get", (("a", 0),))
        facing.pop()
        for other in helper.good_plans():
            turned(other), small(other), followed(other), broken([("flip", 0), ("end",)], other)
            sticking(other, other), partner(other, [("end",)]), partner([("end",)], other), partner(other, plan)
            run(followed(other), followed(plan), [0, 0, 0, 0, 1, 1])
        self.assertEqual(told, kept)


class TheOwnerChangesHis(unittest.TestCase):
    def test_a_plan(self):
        plan = [("send", (("a", 1),)), ("end",)]
        self.assertEqual(turned(plan), [("get", (("a", 1),)), ("end",)])
        self.assertEqual(small(plan), plan)
        program = followed(plan)
        self.assertTrue(keeps(program, plan))
        plan[1] = ("send", (("a", 0),))
        self.assertEqual(turned(plan), [("get", (("a", 1),)), ("get", (("a", 0),))])
        self.assertEqual(small(plan), [("send", (("a", 0),))])
        self.assertFalse(keeps(program, plan))
        self.assertTrue(helper.shows(program, plan, broken(program, plan)))
        self.assertTrue(helper.is_kept(followed(plan), plan))
        plan.append(None)
        for asked in (need_plan, turned, small, followed):
            with self.assertRaises(TalkError):
                asked(plan)
        plan.pop()
        self.assertEqual(small(plan), [("send", (("a", 0),))])

    def test_two_plans(self):
        one = [("send", (("a", 1),)), ("end",)]
        other = [("get", (("a", 1),)), ("end",)]
        self.assertEqual((fits(one, other), sticking(one, other), most_letters(one, other)), (True, None, (0, 1)))
        self.assertTrue(stands_for(one, turned(other)) and alike(one, turned(other)))
        one[0] = ("send", (("a", 1), ("b", 1)))
        self.assertFalse(fits(one, other) or alike(one, turned(other)) or stands_for(one, turned(other)))
        self.assertEqual(run(followed(one), followed(other), sticking(one, other))[0], "strange")
        other[0] = ("get", (("a", 1), ("b", 0)))
        one[1] = ("send", (("b", 1),))
        self.assertEqual(run(followed(one), followed(other), sticking(one, other))[0], "left")
        other[1] = other[0]
        self.assertEqual((fits(one, other), sticking(one, other), most_letters(one, other)), (True, None, (0, None)))

    def test_a_program(self):
        plan = [("get", (("a", 1), ("b", 0))), ("end",)]
        program = [("get", (("a", 1), ("b", 0))), ("end",)]
        self.assertIsNone(broken(program, plan))
        program[1] = ("jump", 1)
        self.assertFalse(keeps(program, plan))
        self.assertEqual(broken(program, plan), ["a"])
        program[1] = ("flip", 0)
        with self.assertRaises(TalkError):
            keeps(program, plan)
        program[1] = ("end",)
        self.assertTrue(keeps(program, plan))


if __name__ == "__main__":
    unittest.main()
