"""Programs: whether they keep plans, what shows that they don't, and programs that do.

A pair is one of a row and a stop.
"""

from talkplans.errors import BadProgram
from talkplans.plans import need_plan
from talkplans.ways import are_ways, choices_to, gone_along, is_place, is_word, kind_of, lacked

MOST_ROWS = 240


def need_program(program):
    """Refuse with BadProgram what is no program."""
    if type(program) is not list or not 1 <= len(program) <= MOST_ROWS:
        raise BadProgram(f"a program is a list of 1 to {MOST_ROWS} rows")
    for number, row in enumerate(program):
        if not is_row(row, number, len(program)):
            raise BadProgram(f"what stands at {number} in the program is no row")


def is_row(row, number, many):
    """Whether it can be the row of this number, in a program of many rows."""
    kind = kind_of(row)
    if kind == "end":
        return len(row) == 1
    if kind == "" or len(row) != 2:
        return False
    told = row[1]
    if kind == "send":
        return is_word(told) and number + 1 < many
    if kind == "get":
        return are_ways(told, many)
    if kind == "flip":
        return is_place(told, many) and number + 1 < many
    return kind == "jump" and is_place(told, many)


def keeps(program, plan):
    """Whether the program keeps the plan."""
    return broken(program, plan) is None


def broken(program, plan):
    """Choices that show that the program doesn't keep the plan; None where it does."""
    need_program(program)
    need_plan(plan)
    came, wrong = gone_along(lambda pair: lets(plan[pair[1]], program[pair[0]]),
                             lambda pair: steps(program, plan, pair))
    if wrong is not None:
        return choices_to(came, wrong)
    circling = never_out(program, list(came))
    if len(circling) == 0:
        return None
    # The first of these pairs is (0, 0) or stands right behind a letter: had a flip or a jump led
    # to it, the pair ahead would be one of these, too, and would come first. So the rows done
    # since the last letter are those of choices_round alone.
    return choices_to(came, circling[0]) + choices_round(program, circling)


def lets(stop, row):
    """Whether the row may be come to at the stop."""
    kind = row[0]
    if kind == "flip" or kind == "jump":
        return True
    if kind != stop[0]:
        return False
    if kind == "send":
        return row[1] in dict(stop[1])
    return len(lacked(row, stop)) == 0


def steps(program, plan, pair):
    """Each (choice, pair behind it) that there is; the choice is None where there is but one step."""
    number, at = pair
    row = program[number]
    if row[0] == "send":
        return [(None, (number + 1, dict(plan[at][1])[row[1]]))]
    if row[0] == "get":
        rows = dict(row[1])
        return [(word, (rows[word], behind)) for word, behind in plan[at][1]]
    return steps_without_letter(program, pair)


def steps_without_letter(program, pair):
    """The steps of a flip or a jump."""
    number, at = pair
    row = program[number]
    if row[0] == "flip":
        return [(0, (number + 1, at)), (1, (row[1], at))]
    if row[0] == "jump":
        return [(None, (row[1], at))]
    return []


def never_out(program, pairs):
    """Those of the pairs, in order, from which flips and jumps alone can go on without end."""
    ahead = {}
    left = {}
    for pair in pairs:
        onward = steps_without_letter(program, pair)
        left[pair] = len(onward)
        for _, behind in onward:
            ahead.setdefault(behind, []).append(pair)
    # A pair is out where each of its steps without a letter leads to one that is out.
    out = [pair for pair in pairs if left[pair] == 0]
    while out:
        last = out.pop()
        for pair in ahead.get(last, []):
            left[pair] -= 1
            if left[pair] == 0:
                out.append(pair)
    return [pair for pair in pairs if left[pair] > 0]


def choices_round(program, circling):
    """The choices from the first of the pairs on, among them all the time, till one comes back."""
    inside = {pair: True for pair in circling}
    pair = circling[0]
    choices = []
    gone = set()
    while pair not in gone:
        gone.add(pair)
        choice, pair = [step for step in steps_without_letter(program, pair) if step[1] in inside][0]
        if choice is not None:
            choices.append(choice)
    return choices


def followed(plan):
    """A program that keeps the plan and may send each word of each send."""
    need_plan(plan)
    starts = first_rows(plan)
    program = []
    for stop in plan:
        program.extend(rows_for(stop, len(program), starts))
    return program


def first_rows(plan):
    """For each stop the number of the row with which its rows begin."""
    starts = []
    number = 0
    for stop in plan:
        starts.append(number)
        number += row_count(stop)
    return starts


def row_count(stop):
    """How many rows rows_for gives: for a send three for each word, but no flip for the last."""
    if stop[0] == "send":
        return 3 * len(stop[1]) - 1
    return 1


def rows_for(stop, number, starts):
    """The rows of the stop, the first of which is the row of this number."""
    if stop[0] == "end":
        return [("end",)]
    if stop[0] == "get":
        return [("get", tuple((word, starts[behind]) for word, behind in stop[1]))]
    rows = []
    for word, behind in stop[1]:
        # A flip past the send and the jump of this word, to those of the words behind it.
        rows.append(("flip", number + len(rows) + 3))
        rows.append(("send", word))
        rows.append(("jump", starts[behind]))
    # Behind the last word there is none to pass on to.
    del rows[-3]
    return rows


def choices_for(stop, word):
    """For the flips of a send's rows the choices by which this word is sent."""
    words = [way[0] for way in stop[1]]
    passed = words.index(word)
    if passed == len(words) - 1:
        return [1] * passed
    return [1] * passed + [0]
