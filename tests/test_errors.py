"""The refusals: what they are, and in which order they are told."""

import unittest

from talkplans.errors import BadPlan, BadProgram, BadTurns, NoFit, TalkError
from talkplans.plans import need_plan, small, turned
from talkplans.programs import broken, followed, keeps, need_program
from tests import helper


class Errors(unittest.TestCase):
    def test_each_is_of_talk_error_and_none_under_another(self):
        self.assertEqual(TalkError.__bases__, (ValueError,))
        for error in (BadPlan, BadProgram, BadTurns, NoFit):
            self.assertEqual(error.__bases__, (TalkError,))

    def test_they_are_defined_where_the_interface_lists_them(self):
        for error in (TalkError, BadPlan, BadProgram, BadTurns, NoFit):
            self.assertEqual(error.__module__, "talkplans.errors")
        for asked in (need_plan, turned, small):
            self.assertEqual(asked.__module__, "talkplans.plans")
        for asked in (need_program, keeps, broken, followed):
            self.assertEqual(asked.__module__, "talkplans.programs")


class Refused(unittest.TestCase):
    def refused(self, error, asked, *handed):
        try:
            asked(*handed)
        except Exception as told:
            self.assertIs(type(told), error)
        else:
            self.fail(f"{asked.__name__} refused nothing")

    def test_each_that_takes_a_plan_refuses_what_is_none(self):
        for at, plan in enumerate(helper.wrong_plans()):
            with self.subTest(at=at):
                for asked in (need_plan, turned, small, followed):
                    self.refused(BadPlan, asked, plan)
                for asked in (keeps, broken):
                    self.refused(BadPlan, asked, [helper.END], plan)

    def test_each_that_takes_a_program_refuses_what_is_none(self):
        for at, program in enumerate(helper.wrong_programs()):
            with self.subTest(at=at):
                self.refused(BadProgram, need_program, program)
                for asked in (keeps, broken):
                    self.refused(BadProgram, asked, program, [helper.END])

    def test_the_program_is_looked_at_first(self):
        for asked in (keeps, broken):
            self.refused(BadProgram, asked, None, None)
            self.refused(BadProgram, asked, [("end",), ("flip", 0)], [])
            self.refused(BadProgram, asked, [("send", (("a", 0),))], [("send", (("a", 0),))] * 13)
            # A program that doesn't keep any plan is a program still.
            self.refused(BadPlan, asked, [("jump", 0)], [("jump", 0)])

    def test_a_plan_is_no_program_and_a_program_no_plan(self):
        plan = [("send", (("a", 1),)), ("end",)]
        program = [("send", "a"), ("end",)]
        self.assertTrue(keeps(program, plan))
        for asked in (keeps, broken):
            self.refused(BadProgram, asked, plan, program)
            self.refused(BadPlan, asked, program, program)


if __name__ == "__main__":
    unittest.main()
