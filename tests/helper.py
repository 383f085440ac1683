"""What several tests need: plans, programs, wrong things, and the document's words gone along by hand.

Nothing here asks the package anything.
"""

WORDS = ["a", "ab", "abcdefgh", "b", "hello", "q", "zz", "zzzzzzzz"]
END = ("end",)


class Dice:
    """Numbers that look thrown and are the same ones each time."""

    def __init__(self, seed):
        self.state = seed

    def below(self, many):
        self.state = (self.state * 6364136223846793005 + 1442695040888963407) % 2 ** 64
        return (self.state >> 33) % many

    def one_of(self, things):
        return things[self.below(len(things))]


def made_ways(dice, places, words, most=6):
    chosen = sorted({dice.one_of(words) for _ in range(1 + dice.below(most))})
    return tuple((word, dice.below(places)) for word in chosen)


def made_plan(dice, stops, words):
    plan = []
    for _ in range(stops):
        kind = dice.one_of(["send", "get", "send", "get", "end"])
        plan.append(END if kind == "end" else (kind, made_ways(dice, stops, words)))
    return plan


def made_program(dice, rows, words):
    program = []
    for number in range(rows):
        kinds = ["get", "jump", "end"] + ["send", "flip"] * 2 * (number + 1 < rows)
        kind = dice.one_of(kinds)
        if kind == "end":
            program.append(END)
        elif kind == "get":
            program.append(("get", made_ways(dice, rows, words)))
        elif kind == "send":
            program.append(("send", dice.one_of(words)))
        else:
            program.append((kind, dice.below(rows)))
    return program


def full_plan(kind="send"):
    """Twelve stops with six ways each."""
    other = {"send": "get", "get": "send"}[kind]
    return [((kind, other)[at % 2], tuple((word, (at * 5 + k + 1) % 12) for k, word in enumerate(WORDS[:6])))
            for at in range(12)]


def good_plans():
    return [
        [END],
        [("send", (("a", 0),))],
        [("get", (("abcdefgh", 0),))],
        [("send", (("a", 0), ("aa", 1), ("ab", 1), ("b", 0), ("zz", 1), ("zzzzzzzz", 0))), END],
        [("send", (("ask", 1), ("bye", 2))), ("get", (("no", 0), ("yes", 0))), END],
        [("get", (("x", 1), ("y", 1))), ("send", (("z", 0),)), ("send", (("lost", 3),)), END],
        full_plan("send"),
        full_plan("get"),
        [END] * 12,
    ]


def wrong_ways():
    """What are no ways, neither of two stops nor of two rows."""
    six = tuple((word, 0) for word in WORDS[:6])
    return [
        None, 0, "ways", [("a", 0)], {"a": 0}, {"a": 0}.items(), (), six + (("zz", 0),),
        (["a", 0],), (("a",),), (("a", 0, 0),), ("a0",), ("a", 0), (None,), (("a", 0), None), ((),),
        (("", 0),), (("ninesigns", 0),), (("A", 0),), (("aB", 0),), (("a1", 0),), (("a b", 0),),
        (("a\n", 0),), ((" ", 0),), (("`", 0),), (("{", 0),), (("\u00e9", 0),), (("\u00aa", 0),),
        (("\u0430", 0),), (("\ud800", 0),), (("a\x00", 0),),
        ((None, 0),), ((1, 0),), ((b"a", 0),), ((["a"], 0),), ((("a",), 0),), (({}, 0),),
        ((Word("a"), 0),), ((Odd(), 0),),
        (("b", 0), ("a", 0)), (("ab", 0), ("a", 0)), (("a", 0), ("a", 0)), (("a", 0), ("a", 1)),
        (("a", 0), ("c", 0), ("b", 0)), (("a", 0), ("b", 0), ("a", 0)),
        (("a", 2),), (("a", -1),), (("a", 10 ** 5000),), (("a", -(10 ** 5000)),),
        (("a", True),), (("a", False),), (("a", None),), (("a", 0.0),), (("a", float("nan")),), (("a", "0"),),
        (("a", (0,)),), (("a", [0]),), (("a", Odd()),), (("a", Number(0)),), (("a", 1j),),
        Tuple((("a", 0),)), (Tuple(("a", 0)),), Odd(),
    ]


def wrong_heads():
    """What is neither a stop nor a row."""
    return [
        None, 0, True, "end", "send", b"end", [], ["end"], ["send", (("a", 0),)], {}, {"end"}, (), ("",), ("End",),
        ("END",), ("end ",), ("stop",), ("end", ()), ("end", 0), ("end", None), ("end", "end"), (None,), (0,),
        (["end"],), (("end",),), ({},), (b"end",), (Odd(),), (Word("end"),), ("send",), ("get",),
        ("take", (("a", 0),)), (None, (("a", 0),)), (["get"], (("a", 0),)), ((), ()), (Odd(), Odd()),
        ("get", (("a", 0),), 0), ("get", (("a", 0),), ()), ("get", "a"), ("get", 0), ("get", None),
        (Word("get"), (("a", 0),)), Tuple(END), Odd(), Odd, iter(()), range(1), 1.5, object(),
    ]


def wrong_lists():
    """What is no list at all, or no list that a plan or a program could be."""
    inner = []
    inner.append(inner)
    return [
        None, 0, 1, -1, True, False, 1.5, 1j, "", "end", "plan", b"", b"end", bytearray(b"end"), (), (END,), END,
        {}, {0: END}, {"end"}, frozenset([END]), range(1), iter([END]), [END].__iter__, len, list, object(),
        [], [[]], inner, [inner], [END, inner], List([END]), Odd(), Odd, Liar(), (part for part in [END]),
    ]


def wrong_plans():
    plans = wrong_lists() + [[END] * 13, [END] * 5000, [("send", (("a", 2),)), END]]
    stops = wrong_heads() + [(kind, ways) for kind in ("send", "get") for ways in wrong_ways()]
    stops += [("send", (("a", 0),), 0), ("send", "a"), ("flip", 0), ("jump", 0), ("flip", (("a", 0),))]
    for stop in stops:
        plans += [[stop, END], [END, stop]]
    return plans


def wrong_programs():
    programs = wrong_lists() + [[END] * 241, [END] * 5000, [("get", (("a", 2),)), END]]
    rows = wrong_heads() + [("get", ways) for ways in wrong_ways()]
    words = ["", "ninesigns", "A", "a1", "a b", "\u00e9", "\ud800", "{", None, 0, b"a", ["a"], ("a",), (("a", 0),)]
    rows += [("send", word) for word in words + [{}, Word("a"), Odd()]]
    places = [2, -1, -2, 10 ** 5000, True, False, None, 0.0, "0", (0,), [0], {}, Odd(), Number(0), (("a", 0),)]
    rows += [(kind, place) for kind in ("flip", "jump") for place in places]
    rows += [("send", "a", 0), ("flip", 0, 0), ("jump", 0, 0), ("flip",), ("jump",), ("hop", 0), ("hop", "a")]
    for row in rows:
        programs += [[row, END], [END, row]]
    return programs + [[("send", "a")], [("flip", 0)], [END, ("send", "a")], [END, ("flip", 0)], [END, ("flip", 1)]]


def wrong_turns():
    """What are no turns."""
    numbers = [-1, -2, -(10 ** 5000), True, False, None, "", "0", "a", b"0", 0.0, 1.5, float("nan"), float("inf"), 1j,
               (), (0,), [], [0], {}, Odd(), Odd, Number(0), object(), range(1)]
    lists = [None, 0, 1, True, False, 1.5, "", "0", "turns", b"", b"\x00", (), (0, 1), {}, {0: 1}, {0}, range(2),
             iter([0]), len, list, object(), List([0]), Odd(), Odd, Liar(), (turn for turn in [0])]
    return lists + [turns for wrong in numbers for turns in ([wrong], [0, wrong], [wrong, 0], [0] * 2000 + [wrong, 0])]


class List(list):
    """No list told by the document: it could answer as it likes."""

    def __len__(self):
        raise RuntimeError("asked")

    def __iter__(self):
        raise RuntimeError("asked")


class Tuple(tuple):
    def __len__(self):
        raise RuntimeError("asked")

    def __getitem__(self, at):
        raise RuntimeError("asked")

    def __iter__(self):
        raise RuntimeError("asked")


class Word(str):
    __hash__ = None

    def __eq__(self, other):
        raise RuntimeError("asked")

    def __len__(self):
        raise RuntimeError("asked")


class Number(int):
    __hash__ = None

    def __eq__(self, other):
        raise RuntimeError("asked")

    def __lt__(self, other):
        raise RuntimeError("asked")

    __le__ = __gt__ = __ge__ = __lt__


class Odd:
    """Answers nothing, whatever it is asked."""

    __hash__ = None

    def __eq__(self, other):
        raise RuntimeError("asked")

    def __bool__(self):
        raise RuntimeError("asked")

    def __repr__(self):
        raise RuntimeError("asked")

    __len__ = __iter__ = __bool__


class Liar:
    """Says that it is a list."""

    @property
    def __class__(self):
        return list

    def __len__(self):
        return 1

    def __getitem__(self, at):
        return END


def ways(stop):
    return dict(stop[1]) if stop[0] != "end" else {}


def look(stop):
    return stop[0], sorted(ways(stop))


def are_alike(one, other, at=0, there=0):
    """Whether from these stops on both plans have the same, whatever words come."""
    seen = [(at, there)]
    for at, there in seen:
        if look(one[at]) != look(other[there]):
            return False
        for word, behind in ways(one[at]).items():
            pair = (behind, ways(other[there])[word])
            if pair not in seen:
                seen.append(pair)
    return True


def stops_come_to(plan):
    """The stops that one can come to, gone through stop by stop."""
    met = [0]
    for at in met:
        for _, behind in plan[at][1] if plan[at] != END else ():
            if behind not in met:
                met.append(behind)
    return met


def is_let(row, stop):
    if row[0] == "send":
        return stop[0] == "send" and row[1] in ways(stop)
    if row[0] == "get":
        return stop[0] == "get" and all(word in dict(row[1]) for word in ways(stop))
    return row[0] != "end" or stop == END


def shows(program, plan, choices):
    """Whether these choices, each of them needed, show that the program doesn't keep the plan."""
    left = list(choices)
    row = stop = 0
    rows = []
    for _ in range(20000):
        doing = program[row]
        if row in rows or not is_let(doing, plan[stop]):
            return left == []
        rows.append(row)
        if doing == END or (doing[0] in ("flip", "get") and left == []):
            return False
        if doing[0] == "send":
            row, stop, rows = row + 1, ways(plan[stop])[doing[1]], []
        elif doing[0] == "get":
            word = left.pop(0)
            if type(word) is not str or word not in ways(plan[stop]):
                return False
            row, stop, rows = ways(doing)[word], ways(plan[stop])[word], []
        elif doing[0] == "jump":
            row = doing[1]
        else:
            choice = left.pop(0)
            if type(choice) is not int or choice not in (0, 1):
                return False
            row = (row + 1, doing[1])[choice]
    return False


def is_kept(program, plan):
    """The words of point 6, each state with all the rows that were done since the last letter."""
    seen = {(0, 0, ())}
    todo = [(0, 0, ())]
    while todo:
        row, stop, rows = todo.pop()
        doing = program[row]
        if row in rows or not is_let(doing, plan[stop]):
            return False
        since = tuple(sorted(rows + (row,)))
        onward = []
        if doing[0] == "send":
            onward = [(row + 1, ways(plan[stop])[doing[1]], ())]
        elif doing[0] == "get":
            onward = [(ways(doing)[word], behind, ()) for word, behind in plan[stop][1]]
        elif doing[0] == "flip":
            onward = [(row + 1, stop, since), (doing[1], stop, since)]
        elif doing[0] == "jump":
            onward = [(doing[1], stop, since)]
        todo += [state for state in onward if state not in seen]
        seen.update(onward)
    return True


def words_sent(program, plan):
    """For each (row behind a letter, stop) that one can come to, the words that may be sent from there."""
    entries = [(0, 0)]
    sent = {}
    for entry in entries:
        row, stop = entry
        sent[entry] = set()
        rows = [row]
        for row in rows:
            doing = program[row]
            onward = []
            if doing[0] == "send":
                sent[entry].add(doing[1])
                onward = [(row + 1, ways(plan[stop])[doing[1]])]
            elif doing[0] == "get":
                onward = [(ways(doing)[word], behind) for word, behind in plan[stop][1]]
            elif doing[0] == "flip":
                rows += [to for to in (row + 1, doing[1]) if to not in rows]
            elif doing[0] == "jump":
                rows += [to for to in (doing[1],) if to not in rows]
            entries += [pair for pair in onward if pair not in entries]
    return sent


def do_fit(one, other):
    """The words of point 11."""
    seen = [(0, 0)]
    for at, there in seen:
        kinds = (one[at][0], other[there][0])
        mine, theirs = ways(one[at]), ways(other[there])
        if kinds not in (("end", "end"), ("send", "get"), ("get", "send")):
            return False
        sent, taken = (mine, theirs) if kinds[0] == "send" else (theirs, mine)
        for word in sent:
            if word not in taken:
                return False
            if (mine[word], theirs[word]) not in seen:
                seen.append((mine[word], theirs[word]))
    return True


def facing(dice, plan, words):
    """A plan that fits this one: turned about, at some sends with fewer words, at some gets with more."""
    told = []
    for stop in plan:
        if stop == END:
            told.append(END)
        elif stop[0] == "send":
            more = made_ways(dice, len(plan), words)[:6 - len(stop[1])]
            told.append(("get", tuple(sorted({**dict(more), **dict(stop[1])}.items()))))
        else:
            fewer = [way for way in stop[1] if dice.below(2)]
            told.append(("send", tuple(fewer) or stop[1]))
    return told


def changed_plan(dice, plan, words):
    """The plan with one stop that is another one."""
    told = list(plan)
    told[dice.below(len(plan))] = made_plan(dice, len(plan), words)[0]
    return told


def pairs_of_plans(seed, many, most=12):
    """Plans beside plans of all sizes: wholly made ones, ones that fit, ones that fit but for one stop."""
    dice = Dice(seed)
    for at in range(many):
        words = (["a"], ["a", "b"], WORDS)[at % 3]
        plan = made_plan(dice, 1 + dice.below(most), words)
        fitting = facing(dice, plan, words)
        yield plan, made_plan(dice, 1 + dice.below(most), words)
        yield plan, fitting
        yield fitting, plan
        yield plan, changed_plan(dice, fitting, words)
        yield changed_plan(dice, fitting, words), plan
        yield fitting, facing(dice, fitting, words)


def drawn_turns(dice, many):
    """Turns of many kinds: drawn ones, rising ones, the one hand's for long stretches, huge ones."""
    kind = dice.below(5)
    if kind == 0:
        return list(range(many))
    if kind == 1:
        return [dice.below(4) for _ in range(many)]
    if kind == 2:
        return [2 * dice.below(2) + at // 60 % 2 for at in range(many)]
    if kind == 3:
        return [10 ** 40 + dice.below(1000) for _ in range(many)]
    greedy = dice.below(2)
    return [4 * dice.below(9) + dice.one_of([0, 1, 2, 3, greedy, greedy + 2, greedy, greedy + 2]) for _ in range(many)]
