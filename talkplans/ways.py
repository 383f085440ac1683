"""What plans and programs are both made of: words, and ways from words to places.

A place is the number of a stop of a plan, or of a row of a program.
"""

MOST_SIGNS = 8
MOST_WAYS = 6


# Kinds are asked for exactly, not by isinstance: True is no number, and an object of a class
# below list, tuple, str or int could answer each question about itself in its own way.


def is_word(word):
    if type(word) is not str or not 1 <= len(word) <= MOST_SIGNS:
        return False
    # isalpha and islower would let letters beyond a to z pass.
    return all("a" <= sign <= "z" for sign in word)


def is_place(place, many):
    """Whether it is one of many places, numbered from 0."""
    return type(place) is int and 0 <= place < many


def is_way(way, many):
    return type(way) is tuple and len(way) == 2 and is_word(way[0]) and is_place(way[1], many)


def are_ways(ways, many):
    """Whether these are ways to some of many places, with rising words."""
    if type(ways) is not tuple or not 1 <= len(ways) <= MOST_WAYS:
        return False
    last = ""
    for way in ways:
        if not is_way(way, many) or way[0] <= last:
            return False
        last = way[0]
    return True


def kind_of(part):
    """The text that a stop or a row begins with; "" of what can be neither."""
    if type(part) is not tuple or len(part) == 0:
        return ""
    kind = part[0]
    if type(kind) is not str:
        return ""
    return kind


def ways_of(stop):
    """The ways of a stop; an end has none."""
    if stop[0] == "end":
        return ()
    return stop[1]
