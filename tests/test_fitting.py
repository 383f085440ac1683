"""Points 11, 12 and 13: plans that fit, turns by which a talk sticks, letters in boxes."""

import unittest

from talkplans.errors import NoFit
from talkplans.fitting import fits, most_letters, sticking
from talkplans.machine import run
from talkplans.plans import turned
from talkplans.programs import followed, keeps
from tests import helper
from tests.helper import END

STUCK = ("crossed", "strange", "left", "waiting")
SEND = ("send", (("a", 1), ("b", 1)))
GET = ("get", (("a", 1), ("b", 1)))


class Fitting(unittest.TestCase):
    def fit(self, one, other):
        for mine, its in ((one, other), (other, one)):
            self.assertIs(fits(mine, its), True)
            self.assertIsNone(sticking(mine, its))

    def stuck(self, one, other, word):
        """They don't fit, and the talk of those that follow them sticks with one of these words."""
        for mine, its in ((one, other), (other, one)):
            self.assertIs(fits(mine, its), False)
            turns = sticking(mine, its)
            self.assertIs(type(turns), list)
            self.assertTrue(all(type(turn) is int and turn >= 0 for turn in turns), turns)
            self.assertIn(run(followed(mine), followed(its), turns)[0], word.split(), (mine, its, turns))
            with self.assertRaises(NoFit):
                most_letters(mine, its)


class TwoStops(Fitting):
    def test_both_are_ends(self):
        self.fit([END], [END])
        self.fit([END, SEND], [END, SEND, GET])

    def test_a_send_and_a_get_that_has_all_its_words(self):
        self.fit([SEND, END], [GET, END])
        self.fit([SEND, END], [("get", (("a", 1), ("aa", 0), ("b", 1), ("c", 0))), END])
        self.fit([("send", (("b", 1),)), END], [GET, END])

    def test_two_sends(self):
        self.stuck([SEND, END], [SEND, END], "crossed")
        self.stuck([SEND, END], [("send", (("c", 0),))], "crossed")
        self.stuck([("send", (("a", 0),))], [("send", (("a", 0),))], "crossed")
        self.stuck(helper.full_plan(), helper.full_plan(), "crossed")

    def test_two_gets(self):
        self.stuck([GET, END], [GET, END], "waiting")
        self.stuck([GET, END], [("get", (("c", 0),))], "waiting")
        self.assertEqual(run(followed([GET, END]), followed([GET, END]), sticking([GET, END], [GET, END])),
                         ("waiting", []))

    def test_an_end_against_another_stop(self):
        self.stuck([END], [SEND, END], "left")
        self.stuck([END], [GET, END], "waiting")
        self.stuck([END], helper.full_plan("send"), "left")
        self.stuck([END], helper.full_plan("get"), "waiting")

    def test_a_word_that_the_get_has_not(self):
        self.stuck([SEND, END], [("get", (("a", 1),)), END], "strange")
        self.stuck([SEND, END], [("get", (("b", 1),)), END], "strange")
        self.stuck([SEND, END], [("get", (("a", 1), ("c", 1))), END], "strange")
        self.stuck([SEND, END], [("get", (("c", 1), ("d", 1))), END], "strange")
        six = ("send", tuple((word, 1) for word in "abcdef"))
        for lacking in "abcdef":
            some = ("get", tuple((word, 1) for word in "abcdefg" if word != lacking))
            self.stuck([six, END], [some, END], "strange")


class Behind(Fitting):
    def test_behind_each_word_and_behind_some_words_alone(self):
        good = [("get", (("x", 3),)), ("send", (("y", 3),)), END]
        its = [("send", (("x", 3),)), ("get", (("y", 3),)), END]
        bad = [(good[0], its[1], "waiting"), (good[1], its[0], "crossed"), (good[0], END, "waiting"),
               (good[1], END, "left"), (END, its[0], "left"), (END, its[1], "waiting"),
               (good[1], ("get", (("z", 3),)), "strange"), (("get", (("xx", 3),)), its[0], "strange")]
        for words in ("a", "ab", "abc", "abcdef"):
            one = ("send", tuple((word, 1 + at % 2) for at, word in enumerate(words)))
            other = ("get", tuple((word, 1 + at % 2) for at, word in enumerate(words)))
            for at in range(3):
                for there in range(3):
                    fine = [one, good[at], good[there], END], [other, its[at], its[there], END]
                    self.fit(*fine)
            for mine, facing, word in bad:
                self.stuck([one, mine, good[0], END], [other, facing, its[0], END], word)
                if len(words) > 1:
                    self.stuck([one, good[1], mine, END], [other, its[1], facing, END], word)
                    # The words of the send alone count: nobody sends the one behind which it goes wrong.
                    self.fit([("send", one[1][::2]), good[1], mine, END], [other, its[1], facing, END])

    def test_the_one_pair_that_goes_wrong_is_far_away(self):
        # Behind 131 letters, and not ahead of these, both are at their last stops.
        sender = [("send", (("a", at + 1),)) for at in range(11)] + [("send", (("a", 0), ("b", 0)))]
        wide = [("get", (("a", (at + 1) % 11), ("b", 0))) for at in range(11)]
        narrow = wide[:10] + [("get", (("a", 0), ("c", 0)))]
        self.fit(sender, wide)
        self.stuck(sender, narrow, "strange")
        for one, other in ((sender, narrow), (narrow, sender)):
            letters = run(followed(one), followed(other), sticking(one, other))[1]
            self.assertEqual(letters[-1][2], "b")
            self.assertEqual(len(letters), 131 + 131 + 1)

    def test_far_away_with_both_hands_sending(self):
        one = [(("send", "get")[at % 2], (("a", (at + 1) % 12),)) for at in range(12)]
        other = [(("get", "send")[at % 2], (("a", (at + 1) % 10),)) for at in range(10)]
        self.fit(one, other)
        self.stuck(one[:11] + [END], other, "left")
        self.stuck(one, other[:9] + [END], "waiting")
        self.stuck(one[:10] + [("get", (("a", 11),)), one[11]], other, "waiting")
        self.stuck(one[:11] + [("send", (("a", 0),))], other, "crossed")

    def test_a_plan_and_itself_turned_about(self):
        dice = helper.Dice(11)
        for plan in helper.good_plans() + [helper.made_plan(dice, 1 + at % 12, helper.WORDS) for at in range(200)]:
            self.fit(plan, turned(plan))

    def test_fewer_words_sent_and_more_words_taken(self):
        one = [("send", (("ask", 1), ("bye", 2))), ("get", (("no", 0), ("yes", 0))), END]
        other = [("get", (("ask", 1), ("bye", 2), ("hello", 0))), ("send", (("yes", 0),)), END]
        self.fit(one, other)
        self.stuck(one, [other[0], ("send", (("maybe", 0), ("yes", 0))), END], "strange")
        self.stuck(one, [("get", (("ask", 1), ("hello", 0))), other[1], END], "strange")


class ManyPlans(Fitting):
    def test_as_the_point_says(self):
        found = {True: 0, False: 0}
        for one, other in helper.pairs_of_plans(11, 400):
            fit = helper.do_fit(one, other)
            found[fit] += 1
            if fit:
                self.fit(one, other)
            else:
                self.stuck(one, other, " ".join(STUCK))
        self.assertGreater(min(found.values()), 300, found)

    def test_plans_that_fit_are_those_of_which_the_one_is_kept_by_who_follows_the_other_turned_about(self):
        for one, other in helper.pairs_of_plans(12, 100):
            self.assertEqual(fits(one, other), keeps(followed(one), turned(other)))

    def test_the_same_turns_each_time(self):
        for one, other in helper.pairs_of_plans(13, 100):
            self.assertEqual(sticking(one, other), sticking(list(one), list(other)))

    def test_twelve_stops_with_six_ways_each(self):
        dice = helper.Dice(14)
        for kind in ("send", "get"):
            plan = helper.full_plan(kind)
            for at in range(60):
                other = helper.facing(dice, plan, helper.WORDS)
                self.fit(plan, other)
                other[at % 12] = dice.one_of([END, plan[at % 12], ("get", (("nobody", 0),)), ("send", (("no", 0),))])
                if not helper.do_fit(plan, other):
                    self.stuck(plan, other, " ".join(STUCK))


class NeverSticks(unittest.TestCase):
    def talk(self, dice, one, other, many=120):
        word, told = run(one, other, helper.drawn_turns(dice, many))
        self.assertIn(word, ("going", "done"), (one, other, told))
        return word, told

    def test_those_who_follow_plans_that_fit(self):
        dice = helper.Dice(15)
        done = letters = 0
        for one, other in helper.pairs_of_plans(15, 300):
            if helper.do_fit(one, other):
                for _ in range(4):
                    word, told = self.talk(dice, followed(one), followed(other))
                    done += word == "done"
                    letters += len(told)
        self.assertGreater(done, 100)
        self.assertGreater(letters, 10000)

    def test_twelve_stops_with_six_ways_each(self):
        dice = helper.Dice(16)
        for kind in ("send", "get"):
            plan = helper.full_plan(kind)
            for _ in range(60):
                other = helper.facing(dice, plan, helper.WORDS)
                self.talk(dice, followed(plan), followed(other), 1000)

    def test_all_who_keep_plans_that_fit(self):
        dice = helper.Dice(17)
        talks = 0
        for one, other in helper.pairs_of_plans(17, 150, 3):
            programs = [helper.made_program(dice, 1 + dice.below(6), ["a", "b"]) for _ in range(40)]
            mine = [program for program in programs if keeps(program, one)] + [followed(one)]
            its = [program for program in programs if keeps(program, other)] + [followed(other)]
            if helper.do_fit(one, other):
                for _ in range(12):
                    talks += 1
                    self.talk(dice, dice.one_of(mine), dice.one_of(its), 60)
        self.assertGreater(talks, 1000)


def most_lying(one, other, most):
    """Each talk of two plans that fit, all that may be sent and taken gone through; None above this many."""
    plans = (one, other)
    start = (0, 0, (), ())
    seen = {start}
    todo = [start]
    greatest = [0, 0]
    while todo:
        state = todo.pop()
        onward = []
        for hand in (0, 1):
            stop = plans[hand][state[hand]]
            box = state[2 + hand]
            its = state[3 - hand]
            if stop[0] == "send":
                onward += [(hand, behind, box, its + (word,)) for word, behind in stop[1]]
            elif stop[0] == "get" and box:
                onward.append((hand, dict(stop[1])[box[0]], box[1:], its))
        for hand, at, box, its in onward:
            if greatest[1 - hand] is not None and len(its) > greatest[1 - hand]:
                greatest[1 - hand] = len(its) if len(its) <= most else None
            told = (at, state[1], box, its) if hand == 0 else (state[0], at, its, box)
            if len(its) <= most and told not in seen:
                seen.add(told)
                todo.append(told)
    return tuple(greatest)


class MostLetters(unittest.TestCase):
    def letters(self, one, other, most):
        self.assertEqual(most_letters(one, other), most)
        self.assertEqual(most_letters(other, one), (most[1], most[0]))
        told = most_letters(one, other)
        self.assertIs(type(told), tuple)
        self.assertTrue(all(number is None or type(number) is int for number in told))

    def turned_about(self, plan, most):
        self.letters(plan, turned(plan), most)

    def test_no_letter(self):
        self.letters([END], [END], (0, 0))
        self.letters([END, ("send", (("a", 1),))], [END, ("get", (("a", 1),))], (0, 0))

    def test_one_letter(self):
        self.turned_about([SEND, END], (0, 1))
        self.turned_about([GET, END], (1, 0))
        self.turned_about([("send", (("a", 1),)), ("get", (("b", 2),)), END], (1, 1))
        # Without end, but each letter is answered.
        self.turned_about([("send", (("a", 1),)), ("get", (("b", 0),))], (1, 1))

    def test_several_letters(self):
        for many in range(1, 12):
            line = [("send", (("a", at + 1), ("b", at + 1))) for at in range(many)] + [END]
            self.turned_about(line, (0, many))
            self.turned_about(line[:-1] + [("get", (("c", 0),))], (1, many))
        self.turned_about([("send", (("a", 1),)), ("send", (("a", 2),)), ("get", (("a", 3),)), ("get", (("a", 4),)),
                           ("get", (("a", 5),)), END], (3, 2))

    def test_the_longest_of_several(self):
        plan = [("send", (("a", 1), ("b", 2), ("c", 4))), ("send", (("a", 2),)), ("send", (("a", 3),)),
                ("get", (("a", 0), ("b", 5))), ("get", (("a", 3),)), END]
        self.turned_about(plan, (2, 3))
        # The longest run begins at no stop that is come to behind a get: it leads past stop 0.
        plan = [("send", (("a", 1),)), ("get", (("a", 2),)), ("send", (("a", 3),)), ("send", (("a", 0),))]
        self.turned_about(plan, (1, 3))

    def test_none_where_there_is_none_greatest(self):
        self.turned_about([("send", (("a", 0),))], (0, None))
        self.turned_about([("get", (("a", 0),))], (None, 0))
        self.turned_about([("send", (("a", 0), ("b", 1))), ("get", (("c", 1), ("d", 0)))], (None, None))
        self.turned_about([("send", (("a", 0), ("b", 1))), ("get", (("c", 2), ("d", 0))), END], (1, None))
        self.turned_about([("send", (("a", 1),)), ("send", (("a", 2),)), ("get", (("b", 2), ("c", 3))), END], (None, 2))
        self.turned_about([("send", (("a", 1),)), ("send", (("a", 2), ("b", 3))), ("send", (("a", 0),)), END],
                          (0, None))
        self.turned_about([("send", (("a", (at + 1) % 12),)) for at in range(12)], (0, None))

    def test_what_nobody_comes_to_counts_for_nothing(self):
        one = [("get", (("a", 1), ("b", 2))), END, ("send", (("c", 2),)), ("get", (("d", 3),))]
        other = [("send", (("a", 1),)), END, ("get", (("c", 2),))]
        self.letters(one, other, (1, 0))
        one = [("get", (("a", 0), ("b", 1))), ("send", (("c", 2),)), ("send", (("c", 3),)), ("send", (("c", 3),)), END]
        other = [("send", (("b", 1),)), ("get", (("c", 2),)), ("get", (("c", 3), ("d", 0))), ("get", (("c", 3),))]
        self.letters(one, other, (1, None))
        one = one[:3] + [END]
        other = other[:3] + [END]
        self.letters(one, other, (1, 2))
        # The same stops can be come to, but not at once: the sender's word a is answered each time.
        one = [("send", (("a", 1),)), ("get", (("x", 0), ("y", 2))), ("send", (("a", 2), ("b", 3))), END]
        other = [("get", (("a", 1), ("b", 0))), ("send", (("x", 0),))]
        self.letters(one, other, (1, 1))

    def test_those_who_send_less(self):
        loop = [("send", (("a", 0), ("b", 1))), END]
        self.letters(loop, [("get", (("a", 0), ("b", 1))), END], (0, None))
        self.letters([("send", (("b", 1),)), END], [("get", (("a", 0), ("b", 1))), END], (0, 1))
        self.letters([("send", (("a", 0),))], [("get", (("a", 0), ("b", 1))), END], (0, None))

    def test_where_they_do_not_fit(self):
        for one, other in (([END], [SEND, END]), ([SEND, END], [SEND, END]), ([GET, END], [GET, END])):
            for mine, its in ((one, other), (other, one)):
                with self.assertRaises(NoFit):
                    most_letters(mine, its)

    def test_all_that_may_be_sent_and_taken(self):
        found = {}
        for one, other in helper.pairs_of_plans(18, 1000, 4):
            few = all(len(stop[-1]) <= 2 for stop in one + other if stop != END)
            if few and len(one) * len(other) <= 9 and helper.do_fit(one, other):
                most = most_letters(one, other)
                self.assertEqual(most, most_lying(one, other, len(one) * len(other)), (one, other))
                found[most] = found.get(most, 0) + 1
        self.assertGreater(len(found), 10, found)

    def test_as_many_lie_as_it_tells(self):
        for one, other in helper.pairs_of_plans(19, 150):
            if helper.do_fit(one, other):
                self.assertEqual(most_letters(one, other), most_letters(list(one), list(other)))
                dice = helper.Dice(19)
                told = run(followed(one), followed(other), helper.drawn_turns(dice, 200))[1]
                for hand, most in enumerate(most_letters(one, other)):
                    lying = [0]
                    for what, whose, _ in told:
                        if what == "sent" and whose != hand:
                            lying.append(lying[-1] + 1)
                        elif what == "got" and whose == hand:
                            lying.append(lying[-1] - 1)
                    self.assertTrue(most is None or max(lying) <= most)

    def test_twelve_stops_with_six_ways_each(self):
        self.turned_about(helper.full_plan(), (None, None))
        words = helper.WORDS[:6]
        line = [("send", tuple((word, min(at + 1 + k, 11)) for k, word in enumerate(words))) for at in range(11)]
        self.turned_about(line + [END], (0, 11))


if __name__ == "__main__":
    unittest.main()
