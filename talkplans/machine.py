"""Talks: two programs that are done by turns."""

from collections import deque

from talkplans.errors import BadTurns
from talkplans.programs import need_program


class Hand:
    """One of the two hands of a talk: its program, the row that it is at, and its box."""

    def __init__(self, program):
        self.program = program
        self.at = 0
        self.box = deque()

    def row(self):
        return self.program[self.at]

    def has_ended(self):
        return self.row()[0] == "end"

    def waits(self):
        return self.row()[0] == "get" and len(self.box) == 0


def run(one, other, turns):
    """How the talk of the two programs goes by the turns: its word, and what was sent and got."""
    need_program(one)
    need_program(other)
    need_turns(turns)
    hands = [Hand(one), Hand(other)]
    told = []
    word = over_between(hands)
    for turn in turns:
        if word is not None:
            break
        word = over_in_turn(hands[hand_of(turn)])
        if word is None:
            do_row(hands, turn, told)
            word = over_between(hands)
    if word is None:
        word = "going"
    return word, told


def need_turns(turns):
    """Refuse with BadTurns what is no list of turns."""
    if type(turns) is not list:
        raise BadTurns("turns are a list")
    for turn in turns:
        # Asked for exactly, as in ways: True is no turn.
        if type(turn) is not int or turn < 0:
            raise BadTurns("a turn is a whole number from 0 on")


def hand_of(turn):
    return turn % 2


def over_between(hands):
    """The word with which the talk is over between two turns, or None."""
    if any(hand.has_ended() and len(hand.box) > 0 for hand in hands):
        return "left"
    if all(hand.has_ended() for hand in hands):
        return "done"
    if all(hand.has_ended() or hand.waits() for hand in hands):
        return "waiting"
    return None


def over_in_turn(hand):
    """The word with which the talk is over when it is this hand's turn, or None."""
    if len(hand.box) == 0:
        return None
    row = hand.row()
    if row[0] == "send":
        return "crossed"
    if row[0] == "get" and hand.box[0] not in dict(row[1]):
        return "strange"
    return None


def do_row(hands, turn, told):
    """Do the row of the hand whose turn it is; what is sent and got is put into told."""
    number = hand_of(turn)
    hand = hands[number]
    row = hand.row()
    if row[0] == "send":
        hands[1 - number].box.append(row[1])
        told.append(("sent", number, row[1]))
        hand.at += 1
    elif row[0] == "get" and len(hand.box) > 0:
        word = hand.box.popleft()
        told.append(("got", number, word))
        hand.at = dict(row[1])[word]
    elif row[0] == "flip" and turn // 2 % 2 == 0:
        hand.at += 1
    elif row[0] == "flip" or row[0] == "jump":
        hand.at = row[1]
