"""Points 14 and 4: plans in the place of others, plans that are alike, and the small plan in the plan's place."""

import itertools
import unittest

from talkplans.errors import NoFit
from talkplans.fitting import fits, most_letters, sticking
from talkplans.machine import run
from talkplans.plans import need_plan, small, turned
from talkplans.programs import broken, followed, keeps
from talkplans.standing import alike, partner, stands_for
from tests import helper
from tests.helper import END

BOTH = (("a", 1), ("b", 1))
ONE = (("a", 1),)


class Standing(unittest.TestCase):
    def stands(self, one, other):
        self.assertIs(stands_for(one, other), True)
        self.assertIsNone(partner(one, other))

    def fails(self, one, other):
        self.assertIs(stands_for(one, other), False)
        told = partner(one, other)
        need_plan(told)
        self.assertTrue(helper.do_fit(other, told), (one, other, told))
        self.assertFalse(helper.do_fit(one, told), (one, other, told))

    def test_a_plan_in_its_own_place(self):
        for plan in helper.good_plans():
            self.stands(plan, plan)
            self.stands(plan, list(plan))

    def test_fewer_words_at_a_send(self):
        self.stands([("send", ONE), END], [("send", BOTH), END])
        self.fails([("send", BOTH), END], [("send", ONE), END])
        self.fails([("send", ONE), END], [("send", (("b", 1),)), END])
        self.fails([("send", BOTH), END], [("send", (("b", 1), ("c", 1))), END])

    def test_more_words_at_a_get(self):
        self.stands([("get", BOTH), END], [("get", ONE), END])
        self.fails([("get", ONE), END], [("get", BOTH), END])
        self.fails([("get", ONE), END], [("get", (("b", 1),)), END])
        self.fails([("get", BOTH), END], [("get", (("b", 1), ("c", 1))), END])

    def test_stops_of_other_kinds(self):
        plans = [[END], [("send", ONE), END], [("get", ONE), END]]
        for one, other in itertools.product(plans, plans):
            (self.stands if one == other else self.fails)(one, other)

    def test_behind_words(self):
        other = [("send", (("a", 1), ("b", 2))), ("get", (("c", 3),)), ("send", (("d", 3),)), END]
        self.stands(other[:1] + [("get", (("c", 3), ("x", 0)))] + other[2:], other)
        self.fails(other[:1] + [("get", (("x", 3),))] + other[2:], other)
        self.fails(other[:2] + [("send", (("x", 3),)), END], other)
        self.fails(other[:3] + [("get", (("c", 3),))], other)
        # What is wrong behind a word that is no longer sent counts for nothing.
        self.stands([("send", (("a", 1),)), other[1], END, END], other)
        self.fails([("send", (("a", 1), ("b", 2))), other[1], END, END], other)

    def test_what_is_behind_a_word_that_the_other_never_takes_counts_for_nothing(self):
        other = [("get", ONE), END]
        self.stands([("get", (("a", 1), ("b", 0))), END], other)
        self.stands([("get", (("a", 1), ("b", 2))), END, ("send", (("z", 2),))], other)
        self.fails([("get", (("a", 2), ("b", 1))), END, ("send", (("z", 2),))], other)

    def test_both_at_once(self):
        other = [("send", (("a", 1), ("b", 1))), ("get", (("no", 0), ("yes", 2))), END]
        one = [("send", (("b", 1),)), ("get", (("maybe", 1), ("no", 0), ("yes", 2))), END]
        self.stands(one, other)
        self.fails(other, one)
        self.fails([one[0], ("get", (("maybe", 1), ("no", 0))), END], other)
        self.fails([("send", (("b", 1), ("c", 1))), one[1], END], other)

    def test_far_away(self):
        other = [("send", (("a", (at + 1) % 11), ("b", 0))) for at in range(11)]
        one = [("send", (("a", (at + 1) % 12),)) for at in range(12)]
        self.stands(one, other)
        one[11] = ("send", (("a", 0), ("b", 0)))
        self.stands(one, other)
        # Stop 11 and stop 10 are met behind 131 letters alone.
        self.fails(one, other[:10] + [("send", (("a", 0),))])
        one[11] = ("send", (("c", 0),))
        self.fails(one, other)

    def test_all_plans_of_two_stops_against_all_that_fit(self):
        ways = [((word, to),) for word in "ab" for to in (0, 1)]
        ways += [(("a", to), ("b", there)) for to in (0, 1) for there in (0, 1)]
        stops = [END] + [(kind, way) for kind in ("send", "get") for way in ways]
        plans = [list(plan) for plan in itertools.product(stops, stops)]
        fitting = [[helper.do_fit(one, other) for other in plans] for one in plans]
        for one, other in itertools.product(range(0, len(plans), 3), range(len(plans))):
            fits_each = all(its or not fit for fit, its in zip(fitting[other], fitting[one]))
            self.assertIs(stands_for(plans[one], plans[other]), fits_each, (plans[one], plans[other]))
            if not fits_each:
                self.fails(plans[one], plans[other])

    def test_many_plans(self):
        found = {True: 0, False: 0}
        dice = helper.Dice(20)
        for mine, facing in helper.pairs_of_plans(20, 300):
            one, other = mine, turned(facing)
            found[stands_for(one, other)] += 1
            self.assertEqual(partner(one, other), partner(list(one), list(other)))
            if stands_for(one, other):
                self.stands(one, other)
                for _ in range(5):
                    its = helper.facing(dice, other, helper.WORDS)
                    self.assertTrue(helper.do_fit(other, its))
                    self.assertTrue(fits(one, its))
            else:
                self.fails(one, other)
        self.assertGreater(min(found.values()), 200, found)

    def test_who_follows_it_keeps_the_plan_in_the_place_of_which_it_may_stand(self):
        for one, facing in helper.pairs_of_plans(21, 60):
            other = turned(facing)
            self.assertEqual(stands_for(one, other), keeps(followed(one), other))

    def test_twelve_stops_with_six_ways_each(self):
        dice = helper.Dice(22)
        for kind in ("send", "get"):
            plan = helper.full_plan(kind)
            self.stands(plan, plan)
            for at in range(40):
                self.stands(plan, turned(helper.facing(dice, plan, helper.WORDS)))
                one = helper.facing(dice, turned(plan), helper.WORDS)
                self.stands(one, plan)
                one[at % 12] = dice.one_of([END, ("send", (("nobody", 0),)), ("get", (("nobody", 0),))])
                self.stands(one, plan) if helper.do_fit(one, turned(plan)) else self.fails(one, plan)


class Alike(unittest.TestCase):
    def test_the_same_stops(self):
        for plan in helper.good_plans():
            self.assertIs(alike(plan, list(plan)), True)

    def test_other_stops(self):
        same = [[("send", (("a", 0),))], [("send", (("a", 1),)), ("send", (("a", 0),))],
                [("send", (("a", 2),)), END, ("send", (("a", 0),))], [("send", (("a", at),)) for at in range(12)],
                [("send", (("a", (at + 1) % 12),)) for at in range(12)]]
        for one, other in itertools.product(same, same):
            self.assertIs(alike(one, other), True)
        self.assertIs(alike([END], [END, ("get", (("a", 0),))]), True)
        self.assertIs(alike([("get", (("a", 1), ("b", 2))), END, END], [("get", (("a", 3), ("b", 3))), END, END, END]),
                      True)

    def test_plans_that_are_not(self):
        plans = [[END], [("send", ONE), END], [("get", ONE), END], [("send", BOTH), END], [("get", BOTH), END],
                 [("send", (("b", 1),)), END], [("send", (("a", 0),))], [("get", (("a", 0),))],
                 [("send", ONE), ("send", (("b", 1),))], [("send", (("a", 1), ("b", 0))), END],
                 [("send", (("a", 0), ("b", 1))), END], [("send", ONE), ("get", ONE)]]
        for at, one in enumerate(plans):
            for there, other in enumerate(plans):
                self.assertIs(alike(one, other), at == there, (one, other))

    def test_one_may_stand_for_the_other_and_yet_not_be_alike(self):
        one, other = [("send", ONE), END], [("send", BOTH), END]
        self.assertTrue(stands_for(one, other))
        self.assertFalse(alike(one, other))

    def test_each_may_stand_for_the_other_where_they_are_alike_and_nowhere_else(self):
        found = {True: 0, False: 0}
        for mine, facing in helper.pairs_of_plans(23, 300, 5):
            one, other = mine, turned(facing)
            same = alike(one, other)
            found[same] += 1
            self.assertEqual(same, helper.are_alike(one, other))
            self.assertEqual(same, stands_for(one, other) and stands_for(other, one))
        self.assertGreater(min(found.values()), 100, found)

    def test_behind_many_letters(self):
        one = [("send", (("a", (at + 1) % 12),)) for at in range(12)]
        other = [("send", (("a", (at + 1) % 11),)) for at in range(11)]
        self.assertTrue(alike(one, other))
        one[11] = ("send", (("b", 0),))
        self.assertFalse(alike(one, other))


class TheSmallPlanInThePlansPlace(unittest.TestCase):
    def test_it_is_alike_and_may_stand_in(self):
        for plan, other in helper.pairs_of_plans(24, 150):
            for its in (plan, other):
                self.assertTrue(alike(small(its), its) and alike(its, small(its)))
                self.assertTrue(stands_for(small(its), its) and stands_for(its, small(its)))

    def test_it_fits_what_the_plan_fits_and_has_the_same_most_letters(self):
        fit = 0
        for one, other in helper.pairs_of_plans(25, 300):
            for mine, its in ((small(one), other), (one, small(other)), (small(one), small(other))):
                self.assertEqual(fits(mine, its), fits(one, other))
                self.assertEqual(sticking(mine, its) is None, fits(one, other))
                if fits(one, other):
                    fit += 1
                    self.assertEqual(most_letters(mine, its), most_letters(one, other))
                else:
                    with self.assertRaises(NoFit):
                        most_letters(mine, its)
        self.assertGreater(fit, 1000)

    def test_it_is_kept_by_the_programs_that_keep_the_plan(self):
        dice = helper.Dice(26)
        found = {True: 0, False: 0}
        for plan, other in helper.pairs_of_plans(26, 150, 4):
            programs = [followed(plan), followed(small(plan)), followed(turned(other))]
            for program in programs + [helper.made_program(dice, 1 + dice.below(5), ["a", "b"]) for _ in range(6)]:
                found[keeps(program, plan)] += 1
                self.assertEqual(keeps(program, small(plan)), keeps(program, plan))
                if not keeps(program, plan):
                    self.assertTrue(helper.shows(program, plan, broken(program, small(plan))))
        self.assertGreater(min(found.values()), 300, found)

    def test_talks_of_those_who_follow_it(self):
        dice = helper.Dice(27)
        for one, other in helper.pairs_of_plans(27, 60):
            if fits(one, other):
                word, _ = run(followed(small(one)), followed(other), helper.drawn_turns(dice, 150))
                self.assertIn(word, ("going", "done"))


if __name__ == "__main__":
    unittest.main()
