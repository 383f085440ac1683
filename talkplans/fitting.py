"""Fitting: whether two plans fit, by which turns the talk sticks, and how many letters may lie in a box.

A pair is one of a stop of the first plan and a stop of the second one.
"""

from talkplans.errors import NoFit
from talkplans.plans import need_plan
from talkplans.programs import choices_for
from talkplans.ways import choices_to, gone_along, lacked


def fits(one, other):
    """Whether the two plans fit."""
    need_plan(one)
    need_plan(other)
    _, wrong = met_pairs(one, other)
    return wrong is None


def met_pairs(one, other):
    """The pairs come to, as gone_along tells them, and the first one found that doesn't suit, or None."""
    return gone_along(lambda pair: suit(one[pair[0]], other[pair[1]]),
                      lambda pair: letters(one[pair[0]], other[pair[1]]))


def suit(stop, there):
    """Whether both are ends, or one is a send and the other a get that has all its words."""
    kinds = (stop[0], there[0])
    if kinds == ("send", "get"):
        return len(lacked(there, stop)) == 0
    if kinds == ("get", "send"):
        return len(lacked(stop, there)) == 0
    return kinds == ("end", "end")


def letters(stop, there):
    """Each (letter, pair behind it) that may be sent at two stops that suit.

    A letter is told by the hand that sends it, the stop at which it does so, and the word.
    """
    if stop[0] == "end":
        return []
    hand = 0
    sender = stop
    if there[0] == "send":
        hand = 1
        sender = there
    behind = dict(stop[1])
    behind_there = dict(there[1])
    return [((hand, sender, word), (behind[word], behind_there[word])) for word, _ in sender[1]]


def sticking(one, other):
    """Turns by which the talk of the programs that follow the two plans sticks; None where they fit."""
    need_plan(one)
    need_plan(other)
    came, wrong = met_pairs(one, other)
    if wrong is None:
        return None
    turns = []
    for hand, sender, word in choices_to(came, wrong):
        turns.extend(turns_to_send(hand, sender, word))
        # The sender's jump to its next stop, then the get: so no letter lies at the pair behind.
        turns.extend([hand, 1 - hand])
    stop = one[wrong[0]]
    there = other[wrong[1]]
    if stop[0] == "send":
        return turns + turns_against(0, stop, there)
    if there[0] == "send":
        return turns + turns_against(1, there, stop)
    # Each of them is a get or an end, and no letter lies: this is waiting.
    return turns


def turns_to_send(hand, stop, word):
    """The turns by which the hand's program, at the first row of a send, sends this word."""
    # Of the hand's turns the first one flips to the next row, the second one to the other.
    return [hand + 2 * choice for choice in choices_for(stop, word)] + [hand]


def turns_against(hand, stop, facing):
    """The turns by which the talk sticks where the hand sends and the facing stop doesn't suit."""
    if facing[0] == "send":
        word = stop[1][0][0]
        crossing = facing[1][0][0]
        return turns_to_send(hand, stop, word) + turns_to_send(1 - hand, facing, crossing)
    # An end is left as soon as the letter lies; to a get it is strange in the turn behind.
    return turns_to_send(hand, stop, lacked(facing, stop)[0]) + [1 - hand]


def most_letters(one, other):
    """The most letters that may lie in the first hand's box and in the second's; None for no greatest number."""
    need_plan(one)
    need_plan(other)
    came, wrong = met_pairs(one, other)
    if wrong is not None:
        raise NoFit("the two plans don't fit")
    of_one = [pair for pair in came if one[pair[0]][0] == "send"]
    of_other = [pair for pair in came if other[pair[1]][0] == "send"]
    # In the first hand's box lies what the second one has sent.
    return most_sent(one, other, of_other), most_sent(one, other, of_one)


def most_sent(one, other, pairs):
    """How many letters may be sent one behind the other at these pairs; None for any number."""
    many = 0
    front = pairs
    while len(front) > 0:
        # More letters than pairs: one of the pairs was come back to, and may be again and again.
        if many == len(pairs):
            return None
        many += 1
        reached = {behind: True for pair in front for _, behind in letters(one[pair[0]], other[pair[1]])}
        front = [pair for pair in pairs if pair in reached]
    return many
