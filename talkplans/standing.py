"""Standing in: whether a plan may stand in the place of another one."""

from talkplans.fitting import fits
from talkplans.plans import need_plan, small, turned


def stands_for(one, other):
    """Whether the first plan may stand in the place of the other one."""
    return partner(one, other) is None


def partner(one, other):
    """A plan that fits the other one and not the first; None where the first may stand in."""
    need_plan(one)
    need_plan(other)
    # Of the plans that fit the other one, none sends more words and none gets fewer than this one:
    # if the first plan fits this one, it fits all of them.
    told = turned(other)
    if fits(one, told):
        return None
    return told


def alike(one, other):
    """Whether the two plans are alike."""
    return small(one) == small(other)
