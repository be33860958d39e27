"""Webs for the tests, and plain ways to find their runs and counts without the program."""

import copy
import fractions
import itertools
import random

# One part, one row.
LINE = ([2], [(0, 0, 1, -1)])

# A row from a place to itself, two rows that lead alike, a round back to place 0.
LOOPS = (
    [3],
    [
        (0, 0, 2, -1),
        (0, 2, 2, -1),
        (0, 0, 2, -1),
        (0, 2, 0, -1),
        (0, 2, 1, -1),
    ],
)

# Two rounds that hang together by row 1 alone: rows 2 and 3 may be even and yet not come to.
ROUND_APART = (
    [4],
    [
        (0, 0, 1, -1),
        (0, 0, 2, -1),
        (0, 2, 3, -1),
        (0, 3, 2, -1),
        (0, 2, 1, -1),
    ],
)

# Part 1 can be called by row 1 alone and goes round from its place 0: row 3.
CALLED_ROUND = (
    [2, 2],
    [
        (0, 0, 1, -1),
        (0, 0, 1, 1),
        (1, 0, 1, -1),
        (1, 0, 0, -1),
    ],
)

# Calls within calls, several calls of one part, calls by the very row that leads to place 1.
NESTED = (
    [3, 3, 2],
    [
        (0, 0, 2, 1),
        (0, 2, 0, 2),
        (0, 2, 1, 1),
        (1, 0, 2, -1),
        (1, 2, 2, 2),
        (1, 2, 1, 2),
        (2, 0, 1, -1),
        (2, 0, 0, -1),
    ],
)

# Four parts, each called by the row that leads the one ahead of it to its end.
DEEP = (
    [2, 2, 2, 2],
    [(0, 0, 1, 1), (1, 0, 1, 2), (2, 0, 1, 3), (3, 0, 1, -1), (3, 0, 0, -1)],
)

# What each row calls comes to part 1 in three ways.
MANY_CALLS = (
    [2, 2, 2],
    [(0, 0, 1, 1), (0, 0, 0, 1), (0, 0, 0, 2), (2, 0, 1, -1), (1, 0, 1, 2)],
)

# What is read has to be divided: part 1 begins twice for each way by row 0, three times for each by row 2.
DIVIDED = (
    [5, 2],
    [
        (0, 0, 2, 1),
        (0, 2, 1, 1),
        (0, 0, 3, 1),
        (0, 3, 4, 1),
        (0, 4, 1, 1),
        (1, 0, 1, -1),
    ],
)

# Calls three deep: what is read is divided by 9, and heaps that are alike at a choice are large.
FAR_APART = (
    [4, 4, 4, 3],
    [
        (0, 0, 2, 1),
        (0, 2, 3, 1),
        (0, 3, 1, 1),
        (0, 0, 2, 3),
        (1, 0, 2, 2),
        (1, 2, 3, 2),
        (1, 3, 1, 2),
        (2, 0, 2, 3),
        (2, 2, 3, 3),
        (2, 3, 1, 3),
        (2, 2, 2, 3),
        (3, 0, 2, -1),
        (3, 2, 1, -1),
    ],
)

# Loose: several rows that lead alike, a row past a place, and rows whose numbers don't rise along the ways.
FORKS = (
    [4],
    [
        (0, 2, 1, -1),
        (0, 0, 3, -1),
        (0, 0, 2, -1),
        (0, 3, 1, -1),
        (0, 2, 3, -1),
        (0, 2, 1, -1),
        (0, 0, 3, -1),
    ],
)

# Part 0 goes round, part 1 is loose, part 2 goes round by a row that leads back to its own place; the rows of
# the parts stand mixed, and part 2 is called by rows of both others.
MIXED = (
    [3, 4, 3],
    [
        (1, 0, 2, 2),
        (0, 2, 0, 1),
        (2, 0, 2, -1),
        (1, 2, 3, -1),
        (0, 0, 2, 2),
        (1, 2, 3, 2),
        (2, 2, 2, -1),
        (1, 3, 1, -1),
        (0, 2, 1, 1),
        (2, 2, 1, -1),
        (1, 0, 1, -1),
        (0, 2, 1, -1),
    ],
)

# What is a cut hangs on the rows' numbers: rounds into one another, to place 0, and to places left for good.
ROUNDS = (
    [6],
    [
        (0, 5, 2, -1),
        (0, 0, 3, -1),
        (0, 0, 2, -1),
        (0, 2, 4, -1),
        (0, 3, 2, -1),
        (0, 4, 3, -1),
        (0, 4, 0, -1),
        (0, 2, 5, -1),
        (0, 4, 1, -1),
        (0, 5, 4, -1),
        (0, 2, 2, -1),
        (0, 3, 4, -1),
        (0, 0, 0, -1),
    ],
)

SMALL = [LINE, LOOPS, ROUND_APART, CALLED_ROUND, DEEP, MANY_CALLS]
ALL = SMALL + [NESTED]
# Webs for ways, stretches and chains.
WOVEN = ALL + [DIVIDED, FAR_APART, FORKS, MIXED, ROUNDS]
# Webs for plans: of all of these every choice can be gone through.
CHOSEN_FROM = ALL + [DIVIDED]


def line_web(places, rows):
    """A web of one part with so many places in a line, and so many rows."""
    order = [0] + list(range(2, places)) + [1]
    told = [(0, order[k], order[k + 1], -1) for k in range(places - 1)]
    while len(told) < rows:
        told.append((0, 0, 1, -1))
    return ([places], told)


def no_webs():
    """(what is wrong, a tuple that is no web for that alone) of all that point 4 names."""
    return [
        ("no part", ([], [(0, 0, 1, -1)])),
        ("no part and no row", ([], [])),
        ("a fifth part", ([2] * 5, [(k, 0, 1, k + 1 if k < 4 else -1) for k in range(5)])),
        ("no place", ([0], [(0, 0, 1, -1)])),
        ("1 place", ([1], [(0, 0, 0, -1)])),
        ("below 0 places", ([-2], [(0, 0, 1, -1)])),
        ("1 place in a later part", ([2, 1], [(0, 0, 1, 1), (1, 0, 0, -1)])),
        ("17 places", line_web(17, 20)),
        ("places of thirty figures", ([10 ** 29], [(0, 0, 1, -1)])),
        ("no row", ([2], [])),
        ("sixty-one rows", line_web(2, 61)),
        ("a row of part -1", ([2], [(0, 0, 1, -1), (-1, 0, 1, -1)])),
        ("a row of a part behind the last", ([2], [(0, 0, 1, -1), (1, 0, 1, -1)])),
        ("a row from place -1", ([3], [(0, 0, 2, -1), (0, 2, 1, -1), (0, -1, 1, -1)])),
        ("a row from a place behind the last", ([2], [(0, 0, 1, -1), (0, 2, 1, -1)])),
        ("a row to place -1", ([2], [(0, 0, 1, -1), (0, 0, -1, -1)])),
        ("a row to a place behind the last", ([2], [(0, 0, 1, -1), (0, 0, 2, -1)])),
        ("a row to a place that another part has", ([2, 3], [
            (0, 0, 1, 1), (0, 0, 2, -1), (1, 0, 2, -1), (1, 2, 1, -1)])),
        ("a row from place 1", ([3], [(0, 0, 2, -1), (0, 2, 1, -1), (0, 1, 2, -1)])),
        ("a row from place 1 to itself", ([2], [(0, 0, 1, -1), (0, 1, 1, -1)])),
        ("a row from place 1 of a called part", ([2, 2], [(0, 0, 1, 1), (1, 0, 1, -1), (1, 1, 0, -1)])),
        ("a place without rows", ([3], [(0, 0, 1, -1)])),
        ("a place to which no row leads", ([3], [(0, 0, 1, -1), (0, 2, 1, -1)])),
        ("a place from which no row leads", ([3], [(0, 0, 1, -1), (0, 0, 2, -1)])),
        ("a place from which one only comes back to it", ([3], [(0, 0, 1, -1), (0, 0, 2, -1), (0, 2, 2, -1)])),
        ("places that are only come to from one another", ([4], [
            (0, 0, 1, -1), (0, 2, 3, -1), (0, 3, 2, -1), (0, 2, 1, -1)])),
        ("a place on a way by rows of another part alone", ([3, 3], [
            (0, 0, 1, 1), (1, 0, 2, -1), (1, 2, 1, -1)])),
        ("an end that is not come to", ([2], [(0, 0, 0, -1)])),
        ("a later part without rows", ([2, 2], [(0, 0, 1, 1)])),
        ("a call of its own part", ([2], [(0, 0, 1, -1), (0, 0, 1, 0)])),
        ("a later part's call of itself", ([2, 2], [(0, 0, 1, 1), (1, 0, 1, -1), (1, 0, 1, 1)])),
        ("a call of an earlier part", ([2, 2], [(0, 0, 1, 1), (1, 0, 1, -1), (1, 0, 1, 0)])),
        ("a call of a part behind the last", ([2], [(0, 0, 1, -1), (0, 0, 1, 1)])),
        ("a call of part -2", ([2], [(0, 0, 1, -1), (0, 0, 1, -2)])),
        ("a part that no row calls", ([2, 2], [(0, 0, 1, -1), (1, 0, 1, -1)])),
        ("a last part that no row calls", ([2, 2, 2], [(0, 0, 1, 1), (1, 0, 1, -1), (2, 0, 1, -1)])),
    ]


def plain_rest(web, part, place, most):
    """All lists of at most so many rows that lead from a part's place to its end, with the called parts' rows."""
    if place == 1:
        yield []
        return
    for number, row in enumerate(web[1]):
        if row[:2] != (part, place) or most < 1:
            continue
        inner = plain_rest(web, row[3], 0, most - 1) if row[3] >= 0 else [[]]
        for called in inner:
            for rest in plain_rest(web, part, row[2], most - 1 - len(called)):
                yield [number] + called + rest


def plain_runs(web, most):
    return list(plain_rest(web, 0, 0, most))


def plain_counts(web, heap):
    rows = [sum(run.count(number) for run in heap) for number in range(len(web[1]))]
    parts = [len(heap)]
    for part in range(1, len(web[0])):
        parts.append(sum(rows[number] for number, row in enumerate(web[1]) if row[3] == part))
    return rows + parts


def plain_run_counts(web, cap):
    """The counts of all runs that go through no row, and begin no part, more often than cap."""
    started = (tuple([0] * len(web[1]) + [1] + [0] * (len(web[0]) - 1)), ((0, 0),))
    seen = {started}
    waiting = [started]
    ended = set()
    while waiting:
        tally, stack = waiting.pop()
        if stack == ():
            ended.add(tally)
            continue
        if stack[-1][1] == 1:
            following = [(tally, stack[:-1])]
        else:
            following = [plain_step(web, tally, stack, number) for number, row in enumerate(web[1])
                         if row[:2] == stack[-1]]
        for state in following:
            if max(state[0]) <= cap and state not in seen:
                seen.add(state)
                waiting.append(state)
    return ended


def plain_step(web, tally, stack, number):
    part, place, to, calls = web[1][number]
    tally = list(tally)
    tally[number] += 1
    stack = stack[:-1] + ((part, to),)
    if calls >= 0:
        tally[len(web[1]) + calls] += 1
        stack += ((calls, 0),)
    return tuple(tally), stack


def plain_heap_counts(web, cap):
    """The counts of all heaps in which no count is above cap."""
    runs = plain_run_counts(web, cap)
    found = {tuple([0] * (len(web[1]) + len(web[0])))}
    waiting = list(found)
    while waiting:
        tally = waiting.pop()
        for run in runs:
            more = tuple(a + b for a, b in zip(tally, run))
            if max(more) <= cap and more not in found:
                found.add(more)
                waiting.append(more)
    return found


def drawn_web(seed):
    """A web drawn by the seed: each part a line through its places, with rows and calls strewn in."""
    draw = random.Random(seed)
    places = [draw.randint(2, 6) for part in range(draw.randint(1, 4))]
    leads = []
    for part, size in enumerate(places):
        between = list(range(2, size))
        draw.shuffle(between)
        order = [0] + between + [1]
        leads += [(part, a, b) for a, b in zip(order, order[1:])]
    while len(leads) < 30 and draw.random() < 0.85:
        part = draw.randrange(len(places))
        start = draw.choice([place for place in range(places[part]) if place != 1])
        leads.append((part, start, draw.randrange(places[part])))
    draw.shuffle(leads)
    calls = [-1] * len(leads)
    for part in range(len(places) - 1, 0, -1):
        callers = [k for k, lead in enumerate(leads) if lead[0] < part and calls[k] == -1]
        for k in draw.sample(callers, min(len(callers), draw.randint(1, 2))):
            calls[k] = part
    rows = [lead + (call,) for lead, call in zip(leads, calls)]
    if any(part not in calls for part in range(1, len(places))):
        return drawn_web(seed + 1000003)
    return (places, rows)


def calling_web(seed):
    """A web of two to four parts drawn by the seed, in which most rows call: heaps that are alike grow large."""
    draw = random.Random(seed)
    places = [draw.randint(2, 5) for part in range(draw.randint(2, 4))]
    rows = []
    for part, size in enumerate(places):
        order = [0] + list(range(2, size)) + [1]
        leads = list(zip(order, order[1:]))
        for more in range(draw.randint(0, 2)):
            leads.append((draw.choice([place for place in range(size) if place != 1]), draw.randrange(size)))
        later = list(range(part + 1, len(places)))
        for lead in leads:
            rows.append((part,) + lead + (draw.choice(later + later[:1] * 2 + [-1]) if later else -1,))
    draw.shuffle(rows)
    if any(part not in [row[3] for row in rows] for part in range(1, len(places))):
        return calling_web(seed + 1000003)
    return (places, rows)


def drawn_run(web, draw, most):
    """A run of the web: drawn for about so many rows, then by rows that lead nearer to the end alone."""
    far = [far_from_end(web, part) for part in range(len(web[0]))]
    run = []
    stack = [(0, 0)]
    while stack:
        part, place = stack[-1]
        if place == 1:
            stack.pop()
            continue
        open_rows = [number for number, row in enumerate(web[1]) if row[:2] == (part, place)]
        if len(run) >= most:
            open_rows = [number for number in open_rows if far[part][web[1][number][2]] < far[part][place]]
        number = draw.choice(open_rows)
        run.append(number)
        stack[-1] = (part, web[1][number][2])
        if web[1][number][3] >= 0:
            stack.append((web[1][number][3], 0))
    return run


def far_from_end(web, part):
    far = {1: 0}
    for step in itertools.count(1):
        new = [row[1] for row in web[1] if row[0] == part and row[1] not in far and far.get(row[2]) == step - 1]
        if not new:
            return far
        far.update((place, step) for place in new)


def plain_ways(web, part, place=0):
    """All ways of a loose part from a place to its end, those by lesser rows ahead: each stands at its number."""
    if place == 1:
        return [[]]
    return [[number] + rest for number, row in enumerate(web[1]) if row[:2] == (part, place)
            for rest in plain_ways(web, part, row[2])]


def plain_own_runs(web, part, most, place=0):
    """All lists of at most so many rows of a part, each leading on from the one ahead, from a place to its end."""
    if place == 1:
        yield []
        return
    for number, row in enumerate(web[1]):
        if row[:2] == (part, place) and most > 0:
            for rest in plain_own_runs(web, part, most - 1, row[2]):
                yield [number] + rest


def own_runs_within(web, run):
    """(part, own run) of each going through a part within a run, in the order in which they end."""
    ended = []
    stack = [(0, 0, [])]
    for number in run:
        part, place, own = stack.pop()
        own.append(number)
        stack.append((part, web[1][number][2], own))
        if web[1][number][3] >= 0:
            stack.append((web[1][number][3], 0, []))
        while stack and stack[-1][1] == 1:
            part, place, own = stack.pop()
            ended.append((part, own))
    return ended


def plain_cuts(web, part):
    """The cuts of a part, found by going on from place to place, each such going a call within the one ahead."""
    found = []
    left = []

    def go_from(way):
        for number, row in enumerate(web[1]):
            if row[:2] == (part, way[-1]):
                if row[2] in way:
                    found.append(number)
                elif row[2] not in left:
                    go_from(way + [row[2]])
        left.append(way[-1])

    go_from([0])
    return sorted(found)


def plain_stretch_rows(web, part):
    """(kept, starts, ends, rows): by each row not cut, each cut's row from 0, each cut's row to 1, its number."""
    found = plain_cuts(web, part)
    kept, starts, ends, rows = {}, {}, {}, []
    for number, row in enumerate(web[1]):
        if row[0] == part and number not in found:
            kept[number] = len(rows)
            rows.append((0, row[1], row[2], -1))
    for number in found:
        if web[1][number][2] != 0:
            starts[number] = len(rows)
            rows.append((0, 0, web[1][number][2], -1))
        ends[number] = len(rows)
        rows.append((0, web[1][number][1], 1, -1))
    return kept, starts, ends, rows


def plain_number(rows, way):
    """A way's number in a web of these rows: how many ways go by a lesser row at one of its places."""
    known = {1: 1}

    def lead_on(place):
        if place not in known:
            known[place] = sum(lead_on(row[2]) for row in rows if row[1] == place)
        return known[place]

    return sum(lead_on(row[2]) for step in way for row in rows[:step] if row[1] == rows[step][1])


def plain_chains(web, part):
    """All chains to a part, those whose last rows are lesser ahead, then by those ahead of the last."""
    if part == 0:
        return [[]]
    return [chain + [number] for number, row in enumerate(web[1]) if row[3] == part
            for chain in plain_chains(web, row[0])]


def loose_web(seed):
    """A web drawn by the seed whose parts are all loose, several rows often leading alike."""
    draw = random.Random(seed)
    places = [draw.randint(2, 7) for part in range(draw.randint(1, 4))]
    leads = []
    for part, size in enumerate(places):
        between = list(range(2, size))
        draw.shuffle(between)
        order = [0] + between + [1]
        leads += [(part, a, b) for a, b in zip(order, order[1:])]
        for more in range(draw.randint(0, 6)):
            first, second = sorted(draw.sample(range(size), 2))
            leads.append((part, order[first], order[second]))
    draw.shuffle(leads)
    rows = [lead + (draw.choice(list(range(lead[0] + 1, len(places))) + [-1, -1]),) for lead in leads[:30]]
    if len(leads) > 30 or any(part not in [row[3] for row in rows] for part in range(1, len(places))):
        return loose_web(seed + 1000003)
    return (places, rows)


def no_parts(web):
    """Numbers that no part of the web has."""
    return [-1, -2, -len(web[0]), len(web[0]), len(web[0]) + 1, 10 ** 29, 10 ** 30 - 1, -10 ** 29]


def no_numbers(count):
    """Numbers that are not among those from 0 to one less than count."""
    return [-1, -2, -count, count, count + 1, count + 10 ** 9, 10 ** 29, 10 ** 30 - 1, -10 ** 29]


def near_lists(web, rows):
    """Lists and other things near a list of rows' numbers: with one wrong, one more, one less, or in another order."""
    count = len(web[1])
    near = [None, True, 0, "", tuple(rows), tuple(rows) + (0,), {}, rows + rows, [rows], [None], list(reversed(rows))]
    for place in range(len(rows) + 1):
        near.append(rows[:place])
        near.append(rows[place:])
        near.append(rows[:place] + rows[place + 1:])
        for other in list(range(count)) + [-1, count, 10 ** 29, -10 ** 29, None, "0", (0,), [0]]:
            near.append(rows[:place] + [other] + rows[place:])
            near.append(rows[:place] + [other] + rows[place + 1:])
        near += [rows[:place] + [number - count] + rows[place + 1:] for number in rows[place:place + 1]]
        # True is 1 and False is 0 to Python, but they are no numbers of rows.
        near += [rows[:place] + [number == 1] + rows[place + 1:] for number in rows[place:place + 1] if number < 2]
    return near


def is_plain(value):
    """Whether a value is a list of whole numbers."""
    return isinstance(value, list) and all(isinstance(inner, int) and not isinstance(inner, bool) for inner in value)


def drawn_heap(web, draw):
    return [drawn_run(web, draw, draw.randint(0, 12)) for run in range(draw.randint(0, 4))]


def plain_rank(lists):
    """How many of the lists of numbers don't follow from others of them by sums and multiples."""
    left = [[fractions.Fraction(number) for number in numbers] for numbers in lists]
    rank = 0
    for place in range(len(left[0]) if left else 0):
        first = next((numbers for numbers in left if numbers[place] != 0), None)
        if first is None:
            continue
        rank += 1
        left = [[a - b * numbers[place] / first[place] for a, b in zip(numbers, first)]
                for numbers in left if numbers is not first]
    return rank


def plain_least(web):
    """How many counters it takes: what is free in each part, less what the calls bind."""
    return len(web[1]) - sum(web[0]) + len(web[0]) + 1


def many_counts(web):
    """Counts of runs, from which by sums and multiples the counts of all heaps follow."""
    draw = random.Random(5)
    found = [plain_counts(web, [drawn_run(web, draw, most)]) for most in range(12) for again in range(25)]
    found = [list(numbers) for numbers in {tuple(numbers) for numbers in found}]
    if plain_rank(found) != plain_least(web):
        raise ValueError("too few runs were drawn")
    return sorted(found)


def all_choices(web):
    rows = range(len(web[1]))
    return [list(choice) for size in range(len(rows) + 1) for choice in itertools.combinations(rows, size)]


def enough_choices(web):
    """All choices of a web that are enough, found by going through all of them.

    Heaps' counts less one another are, but for a multiple, all that follows from counts of runs; so a choice is
    enough where nothing is lost when these are only looked at there.
    """
    known = many_counts(web)
    least = plain_least(web)
    return [choice for choice in all_choices(web)
            if plain_rank([[numbers[row] for row in choice] for numbers in known]) == least]


def no_choices(web):
    """Things of all kinds that are no choice of the web."""
    count = len(web[1])
    return [None, True, False, 0, 1, -1, 10 ** 29, "", "0", "01", 0.5, (), (0,), {}, {0: True}, set(), {0}, object(),
            [-1], [count], [count + 1], [10 ** 29], [-10 ** 29], [0, 0], [0, count], [-1, 0], [0, -1],
            [False], [True], [0, True], [None], [0, None], ["0"], [0.0], [[0]], [(0,)], [[]], [()], [{}], [object()],
            list(range(count)) + [count], list(range(count)) + [0], [count - 1] * 2]


def no_guesses(web):
    """Things of all kinds, but None, that are no guesses of the web."""
    count = len(web[1])
    right = [1] * count
    wrong = [True, False, 0, 1, "", "1" * count, 0.5, (), tuple(right), {}, dict.fromkeys(range(count), 1), set(),
             object(), [], right[1:], right + [1], right + right, [right]]
    for other in (-1, -10 ** 29, True, False, None, "1", 1.0, [1], (1,), {}, object()):
        wrong.append(right[1:] + [other])
        wrong.append([other] + right[1:])
    return wrong


def parts_of(value):
    """All lists and tuples within a value, itself too."""
    found = [value] if isinstance(value, (list, tuple)) else []
    for inner in found[:1] and value:
        found += parts_of(inner)
    return found


def spoil(value):
    """Change every list within a value."""
    for part in parts_of(value):
        if isinstance(part, list):
            part.append(77)
            part.reverse()


def check_kept(case, function, *handed):
    """That a function changes nothing handed in, and tells new lists and tuples that are the asker's own."""
    before = copy.deepcopy(handed)
    told = function(*handed)
    case.assertEqual(handed, before)
    case.assertEqual(repr(handed), repr(before))
    first = copy.deepcopy(told)
    known = [id(part) for part in parts_of(handed)]
    shared = [part for part in parts_of(told) if id(part) in known]
    case.assertEqual(shared, [])
    again = function(*handed)
    case.assertEqual(again, first)
    known = [id(part) for part in parts_of(told)]
    case.assertEqual(len(known), len(set(known)))
    case.assertEqual([part for part in parts_of(again) if id(part) in known], [])
    spoil(told)
    case.assertEqual(again, first)
    case.assertEqual(handed, before)
    case.assertEqual(function(*handed), first)
    spoil(handed)
    case.assertEqual(again, first)
    case.assertEqual(function(*before), first)
