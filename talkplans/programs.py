"""Programs: whether they keep plans, what shows that they don't, and programs that do.

To go along a program and a plan is to be at a pair (row, stop); it begins at (0, 0).
"""

from talkplans.errors import BadProgram
from talkplans.plans import need_plan
from talkplans.ways import are_ways, is_place, is_word, kind_of, ways_of

MOST_ROWS = 240


def need_program(program):
    """Refuse with BadProgram what is no program."""
    if type(program) is not list or not 1 <= len(program) <= MOST_ROWS:
        raise BadProgram(f"a program is a list of 1 to {MOST_ROWS} rows")
    for number, row in enumerate(program):
        if not is_row(row, number, len(program)):
            raise BadProgram(f"what stands at {number} in the program is no row")


def is_row(row, number, many):
    """Whether it can be the row of this number, in a program of many rows."""
    kind = kind_of(row)
    if kind == "end":
        return len(row) == 1
    if kind == "" or len(row) != 2:
        return False
    told = row[1]
    if kind == "send":
        return is_word(told) and number + 1 < many
    if kind == "get":
        return are_ways(told, many)
    if kind == "flip":
        return is_place(told, many) and number + 1 < many
    return kind == "jump" and is_place(told, many)


def keeps(program, plan):
    """Whether the program keeps the plan."""
    return broken(program, plan) is None


def broken(program, plan):
    """Choices that show that the program doesn't keep the plan; None where it does."""
    need_program(program)
    need_plan(plan)
    came, wrong = gone_along(program, plan)
    if wrong is not None:
        return choices_to(came, wrong)
    circling = never_out(program, list(came))
    if len(circling) == 0:
        return None
    # The first of these pairs is (0, 0) or stands right behind a letter: had a flip or a jump led
    # to it, the pair ahead would be one of these, too, and would come first. So the rows done
    # since the last letter are those of choices_round alone.
    return choices_to(came, circling[0]) + choices_round(program, circling)


def gone_along(program, plan):
    """The pairs come to, and the first one found whose row its stop doesn't let, or None.

    For each pair stands the pair ahead of it with the choice made there (None where there was none
    to make); for the first pair stands None. They are in the order in which they were come to.
    """
    came = {(0, 0): None}
    pairs = [(0, 0)]
    at = 0
    while at < len(pairs):
        pair = pairs[at]
        if not lets(plan[pair[1]], program[pair[0]]):
            return came, pair
        for choice, behind in steps(program, plan, pair):
            if behind not in came:
                came[behind] = (pair, choice)
                pairs.append(behind)
        at += 1
    return came, None


def lets(stop, row):
    """Whether the row may be come to at the stop."""
    kind = row[0]
    if kind == "flip" or kind == "jump":
        return True
    if kind != stop[0]:
        return False
    if kind == "send":
        return row[1] in dict(stop[1])
    rows = dict(ways_of(row))
    return all(way[0] in rows for way in ways_of(stop))


def steps(program, plan, pair):
    """Each (choice, pair behind it) that there is; the choice is None where there is but one step."""
    number, at = pair
    row = program[number]
    if row[0] == "send":
        return [(None, (number + 1, dict(plan[at][1])[row[1]]))]
    if row[0] == "get":
        rows = dict(row[1])
        return [(word, (rows[word], behind)) for word, behind in plan[at][1]]
    return steps_without_letter(program, pair)


def steps_without_letter(program, pair):
    """The steps of a flip or a jump."""
    number, at = pair
    row = program[number]
    if row[0] == "flip":
        return [(0, (number + 1, at)), (1, (row[1], at))]
    if row[0] == "jump":
        return [(None, (row[1], at))]
    return []


def choices_to(came, pair):
    """The choices by which one first came to the pair."""
    choices = []
    while came[pair] is not None:
        pair, choice = came[pair]
        if choice is not None:
            choices.append(choice)
    choices.reverse()
    return choices


def never_out(program, pairs):
    """Those of the pairs, in order, from which flips and jumps alone can go on without end."""
    ahead = {}
    left = {}
    for pair in pairs:
        onward = steps_without_letter(program, pair)
        left[pair] = len(onward)
        for _, behind in onward:
            ahead.setdefault(behind, []).append(pair)
    # A pair is out where each of its steps without a letter leads to one that is out.
    out = [pair for pair in pairs if left[pair] == 0]
    while out:
        last = out.pop()
        for pair in ahead.get(last, []):
            left[pair] -= 1
            if left[pair] == 0:
                out.append(pair)
    return [pair for pair in pairs if left[pair] > 0]


def choices_round(program, circling):
    """The choices from the first of the pairs on, among them all the time, till one comes back."""
    inside = {pair: True for pair in circling}
    pair = circling[0]
    choices = []
    gone = set()
    while pair not in gone:
        gone.add(pair)
        choice, pair = [step for step in steps_without_letter(program, pair) if step[1] in inside][0]
        if choice is not None:
            choices.append(choice)
    return choices


def followed(plan):
    """A program that keeps the plan and may send each word of each send."""
    need_plan(plan)
    starts = first_rows(plan)
    program = []
    for stop in plan:
        program.extend(rows_for(stop, len(program), starts))
    return program


def first_rows(plan):
    """For each stop the number of the row with which its rows begin."""
    starts = []
    number = 0
    for stop in plan:
        starts.append(number)
        number += row_count(stop)
    return starts


def row_count(stop):
    """How many rows rows_for gives: for a send three for each word, but no flip for the last."""
    if stop[0] == "send":
        return 3 * len(stop[1]) - 1
    return 1


def rows_for(stop, number, starts):
    """The rows of the stop, the first of which is the row of this number."""
    if stop[0] == "end":
        return [("end",)]
    if stop[0] == "get":
        return [("get", tuple((word, starts[behind]) for word, behind in stop[1]))]
    rows = []
    for word, behind in stop[1]:
        # A flip past the send and the jump of this word, to those of the words behind it.
        rows.append(("flip", number + len(rows) + 3))
        rows.append(("send", word))
        rows.append(("jump", starts[behind]))
    # Behind the last word there is none to pass on to.
    del rows[-3]
    return rows
