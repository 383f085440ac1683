"""Plans: what one hand may send and has to take, stop by stop."""

from talkplans.errors import BadPlan
from talkplans.ways import are_ways, kind_of, ways_of

MOST_STOPS = 12
TURNED = {"send": "get", "get": "send"}


def need_plan(plan):
    """Refuse with BadPlan what is no plan."""
    if type(plan) is not list or not 1 <= len(plan) <= MOST_STOPS:
        raise BadPlan(f"a plan is a list of 1 to {MOST_STOPS} stops")
    for number, stop in enumerate(plan):
        if not is_stop(stop, len(plan)):
            raise BadPlan(f"what stands at {number} in the plan is no stop")


def is_stop(stop, many):
    kind = kind_of(stop)
    if kind == "end":
        return len(stop) == 1
    return kind in ("send", "get") and len(stop) == 2 and are_ways(stop[1], many)


def turned(plan):
    """The plan with get for each send and send for each get."""
    need_plan(plan)
    return [turned_stop(stop) for stop in plan]


def turned_stop(stop):
    if stop[0] == "end":
        return stop
    return (TURNED[stop[0]], stop[1])


def small(plan):
    """The plan with the fewest stops that is alike, its stops as they are first come to."""
    need_plan(plan)
    groups = alike_groups(plan)
    met = met_stops(plan, groups)
    places = {groups[number]: place for place, number in enumerate(met)}
    return [led_to(led_to(plan[number], groups), places) for number in met]


def alike_groups(plan):
    """For each stop the number of its group; the stops of a group are alike."""
    groups = [0] * len(plan)
    # A round parts a group, or else no later one does: there are never more rounds to do than stops.
    for _ in plan:
        groups = numbered([led_to(stop, groups) for stop in plan])
    return groups


def led_to(stop, places):
    """The stop with ways that lead to places[n] in place of n."""
    if stop[0] == "end":
        return stop
    return (stop[0], tuple((word, places[behind]) for word, behind in stop[1]))


def numbered(looks):
    """For each look a number, the same one for the same looks."""
    numbers = {}
    for look in looks:
        if look not in numbers:
            numbers[look] = len(numbers)
    return [numbers[seen] for seen in looks]


def met_stops(plan, groups):
    """One stop of each group that one can come to, in the order in which the groups are come to."""
    met = [0]
    known = [groups[0]]
    at = 0
    while at < len(met):
        for _, behind in ways_of(plan[met[at]]):
            if groups[behind] not in known:
                known.append(groups[behind])
                met.append(behind)
        at += 1
    return met
