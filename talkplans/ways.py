"""Words, ways from words to places, and going along two things that have ways.

A place is the number of a stop of a plan, or of a row of a program. Who goes along two things is
at a pair, a place in the first one and a place in the second; this begins at (0, 0).
"""

MOST_SIGNS = 8
MOST_WAYS = 6


# Kinds are asked for exactly, not by isinstance: True is no number, and an object of a class
# below list, tuple, str or int could answer each question about itself in its own way.


def is_word(word):
    if type(word) is not str or not 1 <= len(word) <= MOST_SIGNS:
        return False
    # isalpha and islower would let letters beyond a to z pass.
    return all("a" <= sign <= "z" for sign in word)


def is_place(place, many):
    """Whether it is one of many places, numbered from 0."""
    return type(place) is int and 0 <= place < many


def is_way(way, many):
    return type(way) is tuple and len(way) == 2 and is_word(way[0]) and is_place(way[1], many)


def are_ways(ways, many):
    """Whether these are ways to some of many places, with rising words."""
    if type(ways) is not tuple or not 1 <= len(ways) <= MOST_WAYS:
        return False
    last = ""
    for way in ways:
        if not is_way(way, many) or way[0] <= last:
            return False
        last = way[0]
    return True


def kind_of(part):
    """The text that a stop or a row begins with; "" of what can be neither."""
    if type(part) is not tuple or len(part) == 0:
        return ""
    kind = part[0]
    if type(kind) is not str:
        return ""
    return kind


def ways_of(stop):
    """The ways of a stop; an end has none."""
    if stop[0] == "end":
        return ()
    return stop[1]


def lacked(taker, sender):
    """The words of the sender's ways, in order, that the taker's ways haven't."""
    known = dict(ways_of(taker))
    return [word for word, _ in ways_of(sender) if word not in known]


def gone_along(holds, steps):
    """The pairs come to, and the first one found for which holds(pair) is not true, or None.

    steps(pair) is each (choice, pair behind it); the choice is None where there is none to make.
    For each pair stands the pair ahead of it with the choice made there; for the first pair stands
    None. They are in the order in which they were come to.
    """
    came = {(0, 0): None}
    pairs = [(0, 0)]
    at = 0
    while at < len(pairs):
        pair = pairs[at]
        if not holds(pair):
            return came, pair
        for choice, behind in steps(pair):
            if behind not in came:
                came[behind] = (pair, choice)
                pairs.append(behind)
        at += 1
    return came, None


def choices_to(came, pair):
    """The choices by which one first came to the pair."""
    choices = []
    while came[pair] is not None:
        pair, choice = came[pair]
        if choice is not None:
            choices.append(choice)
    choices.reverse()
    return choices
