"""The refusals: what they are, and in which order they are told."""

import inspect
import unittest

from talkplans.errors import BadPlan, BadProgram, BadTurns, NoFit, TalkError
from talkplans.fitting import fits, most_letters, sticking
from talkplans.machine import run
from talkplans.plans import need_plan, small, turned
from talkplans.programs import broken, followed, keeps, need_program
from talkplans.standing import alike, partner, stands_for
from tests import helper

OF_TWO_PLANS = (fits, sticking, most_letters, stands_for, partner, alike)
LISTED = {
    "talkplans.plans": {need_plan: ["plan"], turned: ["plan"], small: ["plan"]},
    "talkplans.programs": {need_program: ["program"], keeps: ["program", "plan"], broken: ["program", "plan"],
                           followed: ["plan"]},
    "talkplans.machine": {run: ["one", "other", "turns"]},
    "talkplans.fitting": {asked: ["one", "other"] for asked in OF_TWO_PLANS[:3]},
    "talkplans.standing": {asked: ["one", "other"] for asked in OF_TWO_PLANS[3:]},
}


class Errors(unittest.TestCase):
    def test_each_is_of_talk_error_and_none_under_another(self):
        self.assertEqual(TalkError.__bases__, (ValueError,))
        for error in (BadPlan, BadProgram, BadTurns, NoFit):
            self.assertEqual(error.__bases__, (TalkError,))

    def test_they_are_defined_where_the_interface_lists_them(self):
        for error in (TalkError, BadPlan, BadProgram, BadTurns, NoFit):
            self.assertEqual(error.__module__, "talkplans.errors")
        for module, listed in LISTED.items():
            for asked, names in listed.items():
                self.assertEqual(asked.__module__, module)
                self.assertEqual(list(inspect.signature(asked).parameters), names)


class Refused(unittest.TestCase):
    def refused(self, error, asked, *handed):
        try:
            asked(*handed)
        except Exception as told:
            self.assertIs(type(told), error)
        else:
            self.fail(f"{asked.__name__} refused nothing")

    def test_each_that_takes_a_plan_refuses_what_is_none(self):
        for at, plan in enumerate(helper.wrong_plans()):
            with self.subTest(at=at):
                for asked in (need_plan, turned, small, followed):
                    self.refused(BadPlan, asked, plan)
                for asked in (keeps, broken):
                    self.refused(BadPlan, asked, [helper.END], plan)

    def test_each_that_takes_a_program_refuses_what_is_none(self):
        for at, program in enumerate(helper.wrong_programs()):
            with self.subTest(at=at):
                self.refused(BadProgram, need_program, program)
                for asked in (keeps, broken):
                    self.refused(BadProgram, asked, program, [helper.END])

    def test_the_program_is_looked_at_first(self):
        for asked in (keeps, broken):
            self.refused(BadProgram, asked, None, None)
            self.refused(BadProgram, asked, [("end",), ("flip", 0)], [])
            self.refused(BadProgram, asked, [("send", (("a", 0),))], [("send", (("a", 0),))] * 13)
            # A program that doesn't keep any plan is a program still.
            self.refused(BadPlan, asked, [("jump", 0)], [("jump", 0)])

    def test_each_that_takes_two_plans_refuses_what_is_none(self):
        for at, plan in enumerate(helper.wrong_plans()):
            with self.subTest(at=at):
                for asked in OF_TWO_PLANS:
                    self.refused(BadPlan, asked, plan, [helper.END])
                    self.refused(BadPlan, asked, [helper.END], plan)
                    self.refused(BadPlan, asked, plan, plan)

    def test_no_fit_is_told_of_plans_alone(self):
        plan = [("send", (("a", 0),))]
        self.refused(NoFit, most_letters, plan, plan)
        self.refused(NoFit, most_letters, plan, [("end",)])
        for wrong in helper.wrong_plans():
            self.refused(BadPlan, most_letters, plan, wrong)
            self.refused(BadPlan, most_letters, wrong, plan)

    def test_run_refuses_programs_that_are_none(self):
        for at, program in enumerate(helper.wrong_programs()):
            with self.subTest(at=at):
                for turns in ([], [0, 1]):
                    self.refused(BadProgram, run, program, [helper.END], turns)
                    self.refused(BadProgram, run, [helper.END], program, turns)
                    self.refused(BadProgram, run, program, program, turns)

    def test_run_refuses_turns_that_are_none(self):
        # Also where the talk is over ahead of them.
        for one in ([helper.END], [("jump", 0)], [("send", "a"), ("jump", 0)]):
            for at, turns in enumerate(helper.wrong_turns()):
                with self.subTest(at=at):
                    self.refused(BadTurns, run, one, [helper.END], turns)

    def test_run_takes_turns_of_any_size_and_none_at_all(self):
        for turns in ([], [0], [1], [10 ** 5000], [0] * 5000, [2 ** 64, 2 ** 63 - 1]):
            self.assertEqual(run([("jump", 0)], [("jump", 0)], turns), ("going", []))

    def test_run_looks_at_the_programs_in_order_and_then_at_the_turns(self):
        good = [helper.END]
        for program in (None, [], [("send", (("a", 0),))], [("flip", 0)]):
            for turns in (None, [-1], [True], [0, "1"], [1.5]):
                self.refused(BadProgram, run, program, good, turns)
                self.refused(BadProgram, run, good, program, turns)
                self.refused(BadProgram, run, program, program, turns)
                self.refused(BadTurns, run, good, good, turns)

    def test_a_plan_is_no_program_and_a_program_no_plan(self):
        plan = [("send", (("a", 1),)), ("end",)]
        program = [("send", "a"), ("end",)]
        self.assertTrue(keeps(program, plan))
        for asked in (keeps, broken):
            self.refused(BadProgram, asked, plan, program)
            self.refused(BadPlan, asked, program, program)


if __name__ == "__main__":
    unittest.main()
