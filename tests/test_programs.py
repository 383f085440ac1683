"""Points 5 to 8: programs, whether they keep plans, what shows that they don't, programs that follow plans."""

import itertools
import unittest

from talkplans.errors import BadProgram
from talkplans.programs import broken, followed, keeps, need_program
from tests import helper
from tests.helper import END

SEND = ("send", (("a", 1), ("b", 1)))
GET = ("get", (("a", 1), ("b", 1)))


def changed(dice, program):
    """The program with one row that is another one; it may be one that keeps its plan still."""
    other = list(program)
    at = dice.below(len(other))
    rows = [("jump", dice.below(len(other))), END, ("get", helper.made_ways(dice, len(other), ["a", "b"]))]
    if at + 1 < len(other):
        rows += [("flip", dice.below(len(other))), ("send", dice.one_of(["a", "b"]))] * 2
    other[at] = dice.one_of(rows)
    return other


def made_pairs():
    """Programs beside plans: wholly made ones, followed ones, and followed ones that were changed."""
    dice = helper.Dice(6)
    for _ in range(1500):
        plan = helper.made_plan(dice, 1 + dice.below(4), ["a", "b"])
        yield helper.made_program(dice, 1 + dice.below(6), ["a", "b"]), plan
        followers = followed(plan)
        yield followers, plan
        if len(followers) <= 12:
            yield changed(dice, followers), plan
            yield changed(dice, changed(dice, followers)), plan


class Programs(unittest.TestCase):
    def test_each_kind_of_row(self):
        for row in (("send", "a"), ("get", (("a", 0),)), ("flip", 0), ("flip", 1), ("jump", 0), ("jump", 1), END):
            self.assertIsNone(need_program([row, END]))
        for row in (("take", "a"), ("send",), ("get",), ("flip",), ("jump",), ("end", 0), ("send", "a", 0)):
            with self.assertRaises(BadProgram):
                need_program([row, END])

    def test_one_row_to_240(self):
        for many in (1, 2, 12, 13, 239, 240):
            self.assertIsNone(need_program([END] * many))
        for many in (0, 241, 242, 1000):
            with self.assertRaises(BadProgram):
                need_program([END] * many)

    def test_rows_lead_to_rows_that_there_are(self):
        for many in (2, 5, 240):
            rest = [END] * (many - 1)
            for row in (("get", (("a", many - 1),)), ("flip", many - 1), ("jump", many - 1)):
                self.assertIsNone(need_program([row] + rest))
            for wrong in (many, many + 1, -1, -many, True, False, None, 0.0, "0"):
                for row in (("get", (("a", wrong),)), ("flip", wrong), ("jump", wrong)):
                    with self.assertRaises(BadProgram):
                        need_program([row] + rest)

    def test_a_send_and_a_flip_have_a_next_row(self):
        for row in (("send", "a"), ("flip", 0)):
            self.assertIsNone(need_program([END, row, END]))
            for program in ([row], [END, row], [("jump", 0)] * 239 + [row]):
                with self.assertRaises(BadProgram):
                    need_program(program)
        for row in (END, ("jump", 0), ("get", (("a", 0),))):
            self.assertIsNone(need_program([row]))
            self.assertIsNone(need_program([END, row]))

    def test_words_and_ways_as_in_plans(self):
        for word in ("a", "z", "zzzzzzzz"):
            self.assertIsNone(need_program([("send", word), ("get", ((word, 0),))]))
        for word in ("", "z" * 9, "A", "a1", "\u00e9", None, 0, b"a", (("a", 0),)):
            for program in ([("send", word), END], [("get", ((word, 0),)), END]):
                with self.assertRaises(BadProgram):
                    need_program(program)
        self.assertIsNone(need_program([("get", tuple((word, 0) for word in "abcdef"))]))
        for words in ("", "abcdefg", "ba", "aa"):
            with self.assertRaises(BadProgram):
                need_program([("get", tuple((word, 0) for word in words))])


class Keeps(unittest.TestCase):
    def kept(self, program, plan):
        self.assertIs(keeps(program, plan), True)
        self.assertIsNone(broken(program, plan))
        self.assertTrue(helper.is_kept(program, plan))

    def not_kept(self, program, plan):
        self.assertIs(keeps(program, plan), False)
        choices = broken(program, plan)
        self.assertIs(type(choices), list)
        self.assertTrue(helper.shows(program, plan, choices), choices)
        self.assertFalse(helper.is_kept(program, plan))

    def test_ends(self):
        self.kept([END], [END])
        self.not_kept([END], [SEND, END])
        self.not_kept([END], [GET, END])

    def test_sends(self):
        self.kept([("send", "a"), END], [SEND, END])
        self.kept([("send", "b"), END], [SEND, END])
        self.not_kept([("send", "a"), END], [GET, END])
        self.not_kept([("send", "a"), END], [END])
        self.not_kept([("send", "c"), END], [SEND, END])
        self.not_kept([("send", "a"), ("send", "a"), END], [SEND, END])

    def test_gets(self):
        self.kept([("get", (("a", 1), ("b", 1))), END], [GET, END])
        self.not_kept([("get", (("a", 1), ("b", 1))), END], [SEND, END])
        self.not_kept([("get", (("a", 1), ("b", 1))), END], [END])
        self.not_kept([("get", (("a", 1),)), END], [GET, END])
        self.not_kept([("get", (("b", 1),)), END], [GET, END])
        self.not_kept([("get", (("a", 1), ("c", 1))), END], [GET, END])

    def test_a_get_with_more_words_than_the_stop(self):
        more = ("get", (("a", 2), ("aa", 1), ("b", 2), ("c", 1)))
        # Row 1 is come to by words alone that the plan doesn't know.
        self.kept([more, ("jump", 1), END], [GET, END])
        self.not_kept([more, ("jump", 1), ("jump", 2)], [GET, END])

    def test_each_word_that_comes_leads_on(self):
        plan = [("get", (("a", 1), ("b", 2))), END, ("send", (("c", 1),))]
        self.kept([("get", (("a", 2), ("b", 1))), ("send", "c"), END], plan)
        self.not_kept([("get", (("a", 1), ("b", 1))), ("send", "c"), END], plan)
        self.not_kept([("get", (("a", 2), ("b", 2))), ("send", "c"), END], plan)

    def test_flips_of_which_one_side_alone_goes_wrong(self):
        good = [("flip", 3), ("send", "a"), ("jump", 5), ("send", "b"), ("jump", 5), END]
        self.kept(good, [SEND, END])
        self.not_kept(good[:1] + [("send", "c")] + good[2:], [SEND, END])
        self.not_kept(good[:3] + [("send", "c")] + good[4:], [SEND, END])
        self.assertEqual(broken(good[:1] + [("send", "c")] + good[2:], [SEND, END]), [0])
        self.assertEqual(broken(good[:3] + [("send", "c")] + good[4:], [SEND, END]), [1])
        self.not_kept([("flip", 2), END, ("jump", 2)], [END])
        self.not_kept([("flip", 0), END], [END])
        self.kept([("flip", 1), END], [END])

    def test_flips_and_jumps_that_lead_back_without_a_letter(self):
        self.not_kept([("jump", 0)], [END])
        self.not_kept([("jump", 1), ("jump", 0)], [GET, END])
        self.not_kept([("flip", 2), ("jump", 0), END], [END])
        self.not_kept([("flip", 2), ("flip", 0), ("flip", 1), END], [END])
        self.not_kept([("send", "a"), ("flip", 1), END], [SEND, END])
        self.not_kept([("get", (("a", 1), ("b", 2))), END, ("jump", 2)], [GET, END])

    def test_back_to_a_row_with_a_letter_between(self):
        self.kept([("send", "a"), ("jump", 0)], [("send", (("a", 0),))])
        self.kept([("jump", 1), ("get", (("a", 0),))], [("get", (("a", 0),))])
        self.kept([("flip", 3), ("send", "a"), ("jump", 0), ("send", "b"), ("jump", 0)],
                  [("send", (("a", 0), ("b", 0)))])

    def test_one_row_come_to_twice_without_going_round(self):
        self.kept([("flip", 2), ("jump", 2), ("jump", 3), END], [END])
        self.kept([("flip", 2), ("flip", 2), ("flip", 3), END], [END])

    def test_one_row_at_several_stops(self):
        plan = [("send", (("a", 1),)), ("send", (("a", 2), ("b", 2))), ("send", (("a", 0),))]
        self.kept([("send", "a"), ("jump", 0)], plan)
        self.not_kept([("send", "a"), ("jump", 0)], plan[:2] + [("send", (("b", 0),))])
        self.not_kept([("send", "a"), ("jump", 0)], plan[:2] + [END])

    def test_rows_and_stops_that_nobody_comes_to(self):
        self.kept([END, ("jump", 1), ("send", "a"), ("flip", 3), ("get", (("q", 0),))], [END])
        self.kept([("jump", 2), ("send", "a"), END], [END])
        self.kept([END], [END, SEND, GET])

    def test_long_ones(self):
        line = [("flip", at + 1) for at in range(239)]
        self.assertTrue(keeps(line + [END], [END]))
        self.assertFalse(keeps(line + [("jump", 239)], [END]))
        self.assertTrue(helper.shows(line + [("jump", 120)], [END], broken(line + [("jump", 120)], [END])))
        self.assertTrue(helper.shows(line + [("jump", 0)], [END], broken(line + [("jump", 0)], [END])))
        plan = helper.full_plan("get")
        echo = [("get", tuple((word, 0) for word in helper.WORDS[:6]))]
        self.assertTrue(helper.shows(echo, plan, broken(echo, plan)))

    def test_many_pairs(self):
        found = {True: 0, False: 0}
        for program, plan in made_pairs():
            if len(program) <= 12:
                self.assertEqual(keeps(program, plan), helper.is_kept(program, plan), (program, plan))
                found[keeps(program, plan)] += 1
        self.assertGreater(min(found.values()), 300)

    def test_all_programs_of_three_rows(self):
        rows = [END, ("send", "a"), ("get", (("a", 0),)), ("get", (("a", 2), ("b", 1)))]
        rows += [(kind, row) for kind in ("flip", "jump") for row in range(3)]
        plans = [[END], [("send", (("a", 0),))], [GET, END], [("get", (("a", 1),)), ("send", (("a", 0), ("b", 0)))]]
        for program in itertools.product(rows, rows, rows):
            if program[-1][0] not in ("send", "flip"):
                for plan in plans:
                    told = broken(list(program), plan)
                    self.assertEqual(told is None, helper.is_kept(program, plan), (program, plan))
                    self.assertTrue(told is None or helper.shows(program, plan, told), (program, plan, told))


class Broken(unittest.TestCase):
    def test_the_choices_gone_along_show_it(self):
        shown = 0
        for program, plan in made_pairs():
            choices = broken(program, plan)
            self.assertEqual(choices is None, keeps(program, plan))
            if choices is not None:
                shown += 1
                self.assertTrue(helper.shows(program, plan, choices), (program, plan, choices))
        self.assertGreater(shown, 1000)

    def test_no_choice_is_told_where_none_is_made(self):
        self.assertEqual(broken([("send", "a"), ("send", "b"), END], [("send", (("a", 1),)), END]), [])
        self.assertEqual(broken([("jump", 1), ("jump", 0)], [END]), [])
        self.assertEqual(broken([("get", (("a", 0),))], [GET, END]), [])

    def test_choices_for_gets_and_flips_up_to_the_row_come_back_to(self):
        plan = [("get", (("x", 1), ("y", 0))), ("send", (("a", 2),)), END]
        program = [("get", (("x", 1), ("y", 0))), ("flip", 4), ("send", "a"), END, ("flip", 2), ("jump", 4)]
        self.assertEqual(broken(program[:5] + [("jump", 2)], plan), None)
        self.assertIn(broken(program, plan), [["y"] * many + ["x", 1, 0] for many in range(5)])

    def test_none_is_told_where_the_plan_is_kept(self):
        for plan in helper.good_plans():
            self.assertIsNone(broken(followed(plan), plan))

    def test_the_same_ones_each_time(self):
        for program, plan in itertools.islice(made_pairs(), 800):
            self.assertEqual(broken(program, plan), broken(list(program), list(plan)))


class Followed(unittest.TestCase):
    def plans(self):
        dice = helper.Dice(8)
        for stops in range(1, 13):
            for words in (["a", "b"], helper.WORDS):
                for _ in range(12):
                    yield helper.made_plan(dice, stops, words)
        yield from helper.good_plans()

    def test_it_is_a_program_and_keeps_the_plan(self):
        for plan in self.plans():
            program = followed(plan)
            self.assertIsNone(need_program(program))
            self.assertTrue(keeps(program, plan))
            self.assertTrue(helper.is_kept(program, plan) if len(program) < 80 else True)

    def test_each_word_of_each_send_may_be_sent(self):
        for plan in self.plans():
            sent = helper.words_sent(followed(plan), plan)
            stops = helper.stops_come_to(plan)
            self.assertEqual(sorted({stop for _, stop in sent}), sorted(stops))
            for (_, stop), words in sent.items():
                if plan[stop][0] == "send":
                    self.assertEqual(sorted(words), [word for word, _ in plan[stop][1]])

    def test_twelve_stops_with_six_ways_each(self):
        ways = tuple((word, at + 3) for at, word in enumerate(helper.WORDS[:6]))
        for plan in (helper.full_plan("send"), helper.full_plan("get"), [("send", ways)] * 12, [("get", ways)] * 12):
            program = followed(plan)
            self.assertLessEqual(len(program), 240)
            self.assertTrue(keeps(program, plan))
            for (_, stop), words in helper.words_sent(program, plan).items():
                self.assertEqual(len(words), 6 if plan[stop][0] == "send" else 0)

    def test_the_same_one_each_time(self):
        for plan in self.plans():
            self.assertEqual(followed(plan), followed(list(plan)))


if __name__ == "__main__":
    unittest.main()
