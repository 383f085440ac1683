"""Points 9 and 10: talks by turns, and the words with which they are over."""

import unittest

from talkplans.machine import run
from tests import helper
from tests.helper import END

HUGE = 10 ** 60


def over(programs, at, boxes):
    ends = [programs[hand][at[hand]] == END for hand in (0, 1)]
    gets = [programs[hand][at[hand]][0] == "get" for hand in (0, 1)]
    if (ends[0] and boxes[0]) or (ends[1] and boxes[1]):
        return "left"
    if ends == [True, True]:
        return "done"
    if all(ends[hand] or (gets[hand] and boxes[hand] == "") for hand in (0, 1)):
        return "waiting"
    return ""


def talked(one, other, turns):
    """The words of points 9 and 10; a box is a text, each word in it with a dot behind."""
    programs, at, boxes, told = (one, other), [0, 0], ["", ""], []
    word = over(programs, at, boxes)
    for turn in turns:
        hand = 0 if turn % 2 == 0 else 1
        kind, *rest = programs[hand][at[hand]]
        if word:
            return word, told
        if kind == "send" and boxes[hand]:
            return "crossed", told
        if kind == "send":
            boxes[1 - hand] += rest[0] + "."
            told.append(("sent", hand, rest[0]))
            at[hand] += 1
        elif kind == "get" and boxes[hand]:
            first, _, behind = boxes[hand].partition(".")
            if first not in dict(rest[0]):
                return "strange", told
            boxes[hand] = behind
            told.append(("got", hand, first))
            at[hand] = dict(rest[0])[first]
        elif kind == "jump" or (kind == "flip" and turn % 4 >= 2):
            at[hand] = rest[0]
        elif kind == "flip":
            at[hand] += 1
        word = over(programs, at, boxes)
    return word or "going", told


class Talks(unittest.TestCase):
    def check(self, one, other, turns, word, told):
        """Both as it is told here and with the two hands exchanged."""
        self.assertEqual(run(one, other, turns), (word, told))
        exchanged = [(what, 1 - hand, said) for what, hand, said in told]
        self.assertEqual(run(other, one, [turn ^ 1 for turn in turns]), (word, exchanged))


class EachKindOfRow(Talks):
    def test_a_send_puts_a_letter_into_the_others_box_and_goes_on(self):
        mine = [("send", "a"), ("send", "b"), ("jump", 2)]
        its = [("get", (("a", 1),)), ("get", (("b", 2),)), ("jump", 2)]
        self.check(mine, its, [0], "going", [("sent", 0, "a")])
        self.check(mine, its, [0, 2], "going", [("sent", 0, "a"), ("sent", 0, "b")])
        self.check(mine, its, [0, 1, 1], "going", [("sent", 0, "a"), ("got", 1, "a")])
        self.check(mine, its, [0, 1, 0, 1, 1], "going",
                  [("sent", 0, "a"), ("got", 1, "a"), ("sent", 0, "b"), ("got", 1, "b")])

    def test_a_get_goes_on_with_the_row_of_its_word(self):
        its = [("get", (("a", 2), ("b", 1), ("c", 0))), ("send", "x"), ("send", "y"), END]
        for word, turns, behind in (("a", [1], [("sent", 1, "y")]), ("b", [1], [("sent", 1, "x")]), ("c", [1], [])):
            mine = [("send", word), ("jump", 1)]
            self.check(mine, its, [0, 1] + turns, "going", [("sent", 0, word), ("got", 1, word)] + behind)

    def test_a_get_where_no_letter_lies_does_nothing(self):
        mine = [("jump", 1), ("send", "a"), ("jump", 2)]
        its = [("get", (("a", 1),)), ("jump", 1)]
        self.check(mine, its, [1, 1, 3, 5, HUGE + 1], "going", [])
        self.check(mine, its, [1, 0, 1, 0, 1], "going", [("sent", 0, "a"), ("got", 1, "a")])
        # A letter in the other's box is none for the one that sent it.
        mine = [("send", "a"), ("get", (("a", 2),)), ("jump", 2)]
        self.check(mine, its, [0, 0, 2, 0], "going", [("sent", 0, "a")])

    def test_letters_are_taken_in_the_order_in_which_they_were_sent(self):
        words = ["c", "a", "b", "a", "c", "c", "b"]
        mine = [("send", word) for word in words] + [("jump", len(words))]
        its = [("get", tuple((word, 0) for word in "abc"))]
        sent = [("sent", 0, word) for word in words]
        got = [("got", 1, word) for word in words]
        self.check(mine, its, [0] * 7 + [1] * 9, "going", sent + got)
        self.check(mine, its, [0] * 2 + [1] + [0] * 5 + [1] * 6, "going", sent[:2] + got[:1] + sent[2:] + got[1:])
        self.check(mine, its, [0] * 7 + [1] * 3, "going", sent + got[:3])

    def test_a_flip_goes_by_the_half_of_the_turn(self):
        mine = [("flip", 3), ("send", "next"), ("jump", 2), ("send", "other"), ("jump", 4)]
        its = [("jump", 0)]
        for half in list(range(12)) + [HUGE, HUGE + 1, 2 ** 64, 2 ** 64 + 1, 2 ** 31 - 1, 2 ** 63]:
            word = "next" if half % 2 == 0 else "other"
            self.check(mine, its, [2 * half, 0], "going", [("sent", 0, word)])

    def test_a_flip_to_the_next_row_and_to_itself(self):
        self.check([("flip", 1), ("send", "a"), ("jump", 2)], [("jump", 0)], [0, 0], "going", [("sent", 0, "a")])
        self.check([("flip", 1), ("send", "a"), ("jump", 2)], [("jump", 0)], [2, 0], "going", [("sent", 0, "a")])
        self.check([("flip", 0), ("send", "a"), ("jump", 2)], [("jump", 0)], [2, 2, 6, 0], "going", [])
        self.check([("flip", 0), ("send", "a"), ("jump", 2)], [("jump", 0)], [2, 6, 0, 2], "going", [("sent", 0, "a")])

    def test_a_jump_goes_on_with_that_row(self):
        for to in (2, 3):
            mine = [("jump", to), ("jump", 1), ("send", "a"), ("send", "b"), ("jump", 4)]
            self.check(mine, [("jump", 0)], [0], "going", [])
            self.check(mine, [("jump", 0)], [0, 2], "going", [("sent", 0, "ab"[to - 2])])

    def test_an_end_does_nothing(self):
        self.check([END, ("send", "a"), END], [("jump", 1), ("jump", 0)], [0, 2, 0, 0, 1, 3], "going", [])

    def test_each_turn_is_one_row(self):
        mine = [("jump", 1), ("flip", 0), ("send", "a"), ("jump", 3)]
        for turns, told in (([0, 0], []), ([0, 0, 0], [("sent", 0, "a")]), ([0, 1, 0, 1, 1], []), ([1, 1, 1], [])):
            self.check(mine, [("jump", 0)], turns, "going", told)


class EachWord(Talks):
    def test_ahead_of_the_first_turn(self):
        get = [("get", (("a", 0),))]
        for one, other, word in (([END], [END], "done"), ([END], get, "waiting"), (get, get, "waiting"),
                                 ([("send", "a"), END], [("send", "a"), END], "going"), ([END], [("jump", 0)], "going"),
                                 (get, [("flip", 0), END], "going"), ([("send", "a"), END], [END], "going")):
            for turns in ([], [0], [1, 0], [HUGE]):
                if turns == [] or word != "going":
                    self.check(one, other, turns, word, [])

    def test_crossed(self):
        one = [("send", "a"), ("jump", 1)]
        other = [("send", "b"), ("jump", 1)]
        self.check(one, other, [0], "going", [("sent", 0, "a")])
        self.check(one, other, [0, 1], "crossed", [("sent", 0, "a")])
        self.check(one, other, [1, 0], "crossed", [("sent", 1, "b")])

    def test_crossed_is_looked_at_in_the_turn_of_the_hand(self):
        one = [("send", "a"), ("send", "b"), ("jump", 2)]
        other = [("jump", 1), ("send", "c"), END]
        sent = [("sent", 0, "a"), ("sent", 0, "b")]
        self.check(one, other, [0, 1], "going", sent[:1])
        self.check(one, other, [0, 1, 0, 0, 2, 4], "going", sent)
        self.check(one, other, [0, 1, 0, 0, 1], "crossed", sent)
        self.check(one, other, [0, 1, 1, 0, 0], "crossed", sent[:1])

    def test_no_flip_and_no_jump_crosses(self):
        other = [("jump", 1), ("flip", 0), ("get", (("a", 3),)), END]
        self.check([("send", "a"), END], other, [0, 1, 1, 0, 1], "done", [("sent", 0, "a"), ("got", 1, "a")])

    def test_strange(self):
        one = [("send", "a"), ("send", "b"), ("jump", 2)]
        other = [("get", (("a", 1),)), ("get", (("a", 2), ("c", 2))), END]
        self.check(one, other, [0, 0, 1], "going", [("sent", 0, "a"), ("sent", 0, "b"), ("got", 1, "a")])
        self.check(one, other, [0, 0, 0, 1, 0], "going", [("sent", 0, "a"), ("sent", 0, "b"), ("got", 1, "a")])
        self.check(one, other, [0, 0, 1, 1], "strange", [("sent", 0, "a"), ("sent", 0, "b"), ("got", 1, "a")])
        self.check([("send", "b"), END], other, [0], "going", [("sent", 0, "b")])
        self.check([("send", "b"), END], other, [0, 1, 1], "strange", [("sent", 0, "b")])

    def test_left(self):
        self.check([("send", "a"), END], [END], [0], "left", [("sent", 0, "a")])
        self.check([("send", "a"), ("jump", 1)], [END], [0, 0], "left", [("sent", 0, "a")])
        # The letter lies ahead of the end: it is left as soon as the end is come to.
        one = [("send", "a"), ("jump", 1)]
        self.check(one, [("jump", 1), END], [0], "going", [("sent", 0, "a")])
        self.check(one, [("jump", 1), END], [0, 1, 1], "left", [("sent", 0, "a")])
        other = [("get", (("a", 1),)), END]
        self.check([("send", "a"), ("send", "b"), ("jump", 2)], other, [0, 0, 1], "left",
                   [("sent", 0, "a"), ("sent", 0, "b"), ("got", 1, "a")])

    def test_left_ahead_of_done_and_waiting(self):
        self.check([("send", "a"), END], [END], [0], "left", [("sent", 0, "a")])
        self.check([("send", "a"), ("get", (("a", 1),))], [END], [0], "left", [("sent", 0, "a")])

    def test_done(self):
        self.check([END], [("jump", 1), END], [], "going", [])
        self.check([END], [("jump", 1), END], [0], "going", [])
        self.check([END], [("jump", 1), END], [1], "done", [])
        self.check([("send", "a"), END], [("get", (("a", 1),)), END], [0], "going", [("sent", 0, "a")])
        self.check([("send", "a"), END], [("get", (("a", 1),)), END], [0, 1], "done",
                   [("sent", 0, "a"), ("got", 1, "a")])

    def test_waiting(self):
        get = ("get", (("a", 1),))
        self.check([("jump", 1), get], [END], [0], "waiting", [])
        self.check([("jump", 1), get], [get, END], [0], "waiting", [])
        self.check([("send", "a"), get], [get, get], [0], "going", [("sent", 0, "a")])
        self.check([("send", "a"), get], [get, get], [0, 0, 0], "going", [("sent", 0, "a")])
        self.check([("send", "a"), get], [get, get], [0, 1], "waiting", [("sent", 0, "a"), ("got", 1, "a")])
        self.check([("send", "a"), get], [get, END], [0, 1], "waiting", [("sent", 0, "a"), ("got", 1, "a")])
        self.check([("send", "a"), END], [get, get], [0, 1], "waiting", [("sent", 0, "a"), ("got", 1, "a")])

    def test_nobody_waits_who_has_a_row_to_do(self):
        get = [("get", (("a", 0),))]
        for row in (("jump", 0), ("flip", 0), ("send", "a")):
            self.check(get, [row, END], [], "going", [])
            self.check(get, [row, END], [0, 0, 2], "going", [])

    def test_a_word_that_a_get_has_not_is_no_waiting(self):
        self.check([("send", "b"), END], [("get", (("a", 1),)), END], [0, 0, 0], "going", [("sent", 0, "b")])

    def test_going(self):
        self.check([("jump", 0)], [("jump", 0)], list(range(500)), "going", [])
        self.check([("jump", 0)], [("jump", 0)], [HUGE, HUGE + 1, 0, 10 ** 5000], "going", [])
        self.check([("jump", 0)], [END], [], "going", [])

    def test_turns_behind_the_end_do_nothing(self):
        sent = [("sent", 0, "a")]
        behind = [0, 1, 2, 3, HUGE, HUGE + 1] * 5
        self.check([("send", "a"), ("send", "b"), ("jump", 0)], [END], [0] + behind, "left", sent)
        self.check([("send", "a"), ("jump", 0)], [("send", "b"), ("jump", 0)], [0, 1] + behind, "crossed", sent)
        other = [("get", (("b", 0),))]
        self.check([("send", "a"), ("jump", 0)], other, [0, 1] + behind, "strange", sent)
        other = [("get", (("a", 1), ("b", 1))), END]
        self.check([("send", "a"), END], other, [0, 1] + behind, "done", sent + [("got", 1, "a")])
        other = [("get", (("a", 0), ("b", 1))), ("send", "b")] + [END]
        self.check([("send", "a"), END], other, [0, 1] + behind, "waiting", sent + [("got", 1, "a")])


class What(unittest.TestCase):
    def test_the_kinds_of_what_is_told(self):
        told = run([("send", "a"), END], [("get", (("a", 1),)), END], [0, 1])
        self.assertEqual(told, ("done", [("sent", 0, "a"), ("got", 1, "a")]))
        self.assertIs(type(told), tuple)
        self.assertIs(type(told[1]), list)
        for part in told[1] + run([("send", "a"), END], [("get", (("a", 1),)), END], [HUGE, HUGE + 1])[1]:
            self.assertEqual([type(piece) for piece in part], [str, int, str])
            self.assertIs(type(part), tuple)

    def test_one_program_for_both_hands(self):
        program = [("flip", 3), ("send", "a"), ("jump", 0), ("get", (("a", 0),))]
        turns = [0, 0, 3, 1, 0]
        self.assertEqual(run(program, program, turns), ("going", [("sent", 0, "a"), ("got", 1, "a")]))
        self.assertEqual(run(program, program, [2, 3]), ("waiting", []))

    def test_many_talks(self):
        dice = helper.Dice(10)
        found = {}
        for _ in range(6000):
            one = helper.made_program(dice, 1 + dice.below(7), ["a", "b"])
            other = helper.made_program(dice, 1 + dice.below(7), ["a", "b"])
            turns = helper.drawn_turns(dice, dice.below(40))
            told = run(one, other, turns)
            self.assertEqual(told, talked(one, other, turns), (one, other, turns))
            self.assertEqual(told, run(list(one), list(other), list(turns)))
            found[told[0]] = found.get(told[0], 0) + 1
        self.assertEqual(sorted(found), ["crossed", "done", "going", "left", "strange", "waiting"])
        self.assertGreater(min(found.values()), 100, found)

    def test_long_talks(self):
        one = [("send", "a"), ("jump", 0)]
        other = [("get", (("a", 0),))]
        word, told = run(one, other, [0] * 60000 + [1] * 40000)
        self.assertEqual(word, "going")
        self.assertEqual(told, [("sent", 0, "a")] * 30000 + [("got", 1, "a")] * 30000)
        self.assertEqual(run([("jump", 0)] * 240, [("jump", 239)] * 240, list(range(100000))), ("going", []))


if __name__ == "__main__":
    unittest.main()
