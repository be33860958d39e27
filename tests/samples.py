"""Webs for the tests, and plain ways to find their runs and counts without the program."""

import copy
import itertools
import random

# One part, one row.
LINE = ([2], [(0, 0, 1, -1)])

# A row from a place to itself, two rows that lead alike, a round back to place 0.
LOOPS = (
    [3],
    [
        (0, 0, 2, -1),
        (0, 2, 2, -1),
        (0, 0, 2, -1),
        (0, 2, 0, -1),
        (0, 2, 1, -1),
    ],
)

# Two rounds that hang together by row 1 alone: rows 2 and 3 may be even and yet not come to.
ROUND_APART = (
    [4],
    [
        (0, 0, 1, -1),
        (0, 0, 2, -1),
        (0, 2, 3, -1),
        (0, 3, 2, -1),
        (0, 2, 1, -1),
    ],
)

# Part 1 can be called by row 1 alone and goes round from its place 0: row 3.
CALLED_ROUND = (
    [2, 2],
    [
        (0, 0, 1, -1),
        (0, 0, 1, 1),
        (1, 0, 1, -1),
        (1, 0, 0, -1),
    ],
)

# Calls within calls, several calls of one part, calls by the very row that leads to place 1.
NESTED = (
    [3, 3, 2],
    [
        (0, 0, 2, 1),
        (0, 2, 0, 2),
        (0, 2, 1, 1),
        (1, 0, 2, -1),
        (1, 2, 2, 2),
        (1, 2, 1, 2),
        (2, 0, 1, -1),
        (2, 0, 0, -1),
    ],
)

# Four parts, each called by the row that leads the one ahead of it to its end.
DEEP = (
    [2, 2, 2, 2],
    [(0, 0, 1, 1), (1, 0, 1, 2), (2, 0, 1, 3), (3, 0, 1, -1), (3, 0, 0, -1)],
)

# What each row calls comes to part 1 in three ways.
MANY_CALLS = (
    [2, 2, 2],
    [(0, 0, 1, 1), (0, 0, 0, 1), (0, 0, 0, 2), (2, 0, 1, -1), (1, 0, 1, 2)],
)

SMALL = [LINE, LOOPS, ROUND_APART, CALLED_ROUND, DEEP, MANY_CALLS]
ALL = SMALL + [NESTED]


def line_web(places, rows):
    """A web of one part with so many places in a line, and so many rows."""
    order = [0] + list(range(2, places)) + [1]
    told = [(0, order[k], order[k + 1], -1) for k in range(places - 1)]
    while len(told) < rows:
        told.append((0, 0, 1, -1))
    return ([places], told)


def no_webs():
    """(what is wrong, a tuple that is no web for that alone) of all that point 4 names."""
    return [
        ("no part", ([], [(0, 0, 1, -1)])),
        ("no part and no row", ([], [])),
        ("a fifth part", ([2] * 5, [(k, 0, 1, k + 1 if k < 4 else -1) for k in range(5)])),
        ("no place", ([0], [(0, 0, 1, -1)])),
        ("1 place", ([1], [(0, 0, 0, -1)])),
        ("below 0 places", ([-2], [(0, 0, 1, -1)])),
        ("1 place in a later part", ([2, 1], [(0, 0, 1, 1), (1, 0, 0, -1)])),
        ("17 places", line_web(17, 20)),
        ("places of thirty figures", ([10 ** 29], [(0, 0, 1, -1)])),
        ("no row", ([2], [])),
        ("sixty-one rows", line_web(2, 61)),
        ("a row of part -1", ([2], [(0, 0, 1, -1), (-1, 0, 1, -1)])),
        ("a row of a part behind the last", ([2], [(0, 0, 1, -1), (1, 0, 1, -1)])),
        ("a row from place -1", ([3], [(0, 0, 2, -1), (0, 2, 1, -1), (0, -1, 1, -1)])),
        ("a row from a place behind the last", ([2], [(0, 0, 1, -1), (0, 2, 1, -1)])),
        ("a row to place -1", ([2], [(0, 0, 1, -1), (0, 0, -1, -1)])),
        ("a row to a place behind the last", ([2], [(0, 0, 1, -1), (0, 0, 2, -1)])),
        ("a row to a place that another part has", ([2, 3], [
            (0, 0, 1, 1), (0, 0, 2, -1), (1, 0, 2, -1), (1, 2, 1, -1)])),
        ("a row from place 1", ([3], [(0, 0, 2, -1), (0, 2, 1, -1), (0, 1, 2, -1)])),
        ("a row from place 1 to itself", ([2], [(0, 0, 1, -1), (0, 1, 1, -1)])),
        ("a row from place 1 of a called part", ([2, 2], [(0, 0, 1, 1), (1, 0, 1, -1), (1, 1, 0, -1)])),
        ("a place without rows", ([3], [(0, 0, 1, -1)])),
        ("a place to which no row leads", ([3], [(0, 0, 1, -1), (0, 2, 1, -1)])),
        ("a place from which no row leads", ([3], [(0, 0, 1, -1), (0, 0, 2, -1)])),
        ("a place from which one only comes back to it", ([3], [(0, 0, 1, -1), (0, 0, 2, -1), (0, 2, 2, -1)])),
        ("places that are only come to from one another", ([4], [
            (0, 0, 1, -1), (0, 2, 3, -1), (0, 3, 2, -1), (0, 2, 1, -1)])),
        ("a place on a way by rows of another part alone", ([3, 3], [
            (0, 0, 1, 1), (1, 0, 2, -1), (1, 2, 1, -1)])),
        ("an end that is not come to", ([2], [(0, 0, 0, -1)])),
        ("a later part without rows", ([2, 2], [(0, 0, 1, 1)])),
        ("a call of its own part", ([2], [(0, 0, 1, -1), (0, 0, 1, 0)])),
        ("a later part's call of itself", ([2, 2], [(0, 0, 1, 1), (1, 0, 1, -1), (1, 0, 1, 1)])),
        ("a call of an earlier part", ([2, 2], [(0, 0, 1, 1), (1, 0, 1, -1), (1, 0, 1, 0)])),
        ("a call of a part behind the last", ([2], [(0, 0, 1, -1), (0, 0, 1, 1)])),
        ("a call of part -2", ([2], [(0, 0, 1, -1), (0, 0, 1, -2)])),
        ("a part that no row calls", ([2, 2], [(0, 0, 1, -1), (1, 0, 1, -1)])),
        ("a last part that no row calls", ([2, 2, 2], [(0, 0, 1, 1), (1, 0, 1, -1), (2, 0, 1, -1)])),
    ]


def plain_rest(web, part, place, most):
    """All lists of at most so many rows that lead from a part's place to its end, with the called parts' rows."""
    if place == 1:
        yield []
        return
    for number, row in enumerate(web[1]):
        if row[:2] != (part, place) or most < 1:
            continue
        inner = plain_rest(web, row[3], 0, most - 1) if row[3] >= 0 else [[]]
        for called in inner:
            for rest in plain_rest(web, part, row[2], most - 1 - len(called)):
                yield [number] + called + rest


def plain_runs(web, most):
    return list(plain_rest(web, 0, 0, most))


def plain_counts(web, heap):
    rows = [sum(run.count(number) for run in heap) for number in range(len(web[1]))]
    parts = [len(heap)]
    for part in range(1, len(web[0])):
        parts.append(sum(rows[number] for number, row in enumerate(web[1]) if row[3] == part))
    return rows + parts


def plain_run_counts(web, cap):
    """The counts of all runs that go through no row, and begin no part, more often than cap."""
    started = (tuple([0] * len(web[1]) + [1] + [0] * (len(web[0]) - 1)), ((0, 0),))
    seen = {started}
    waiting = [started]
    ended = set()
    while waiting:
        tally, stack = waiting.pop()
        if stack == ():
            ended.add(tally)
            continue
        if stack[-1][1] == 1:
            following = [(tally, stack[:-1])]
        else:
            following = [plain_step(web, tally, stack, number) for number, row in enumerate(web[1])
                         if row[:2] == stack[-1]]
        for state in following:
            if max(state[0]) <= cap and state not in seen:
                seen.add(state)
                waiting.append(state)
    return ended


def plain_step(web, tally, stack, number):
    part, place, to, calls = web[1][number]
    tally = list(tally)
    tally[number] += 1
    stack = stack[:-1] + ((part, to),)
    if calls >= 0:
        tally[len(web[1]) + calls] += 1
        stack += ((calls, 0),)
    return tuple(tally), stack


def plain_heap_counts(web, cap):
    """The counts of all heaps in which no count is above cap."""
    runs = plain_run_counts(web, cap)
    found = {tuple([0] * (len(web[1]) + len(web[0])))}
    waiting = list(found)
    while waiting:
        tally = waiting.pop()
        for run in runs:
            more = tuple(a + b for a, b in zip(tally, run))
            if max(more) <= cap and more not in found:
                found.add(more)
                waiting.append(more)
    return found


def drawn_web(seed):
    """A web drawn by the seed: each part a line through its places, with rows and calls strewn in."""
    draw = random.Random(seed)
    places = [draw.randint(2, 6) for part in range(draw.randint(1, 4))]
    leads = []
    for part, size in enumerate(places):
        between = list(range(2, size))
        draw.shuffle(between)
        order = [0] + between + [1]
        leads += [(part, a, b) for a, b in zip(order, order[1:])]
    while len(leads) < 30 and draw.random() < 0.85:
        part = draw.randrange(len(places))
        start = draw.choice([place for place in range(places[part]) if place != 1])
        leads.append((part, start, draw.randrange(places[part])))
    draw.shuffle(leads)
    calls = [-1] * len(leads)
    for part in range(len(places) - 1, 0, -1):
        callers = [k for k, lead in enumerate(leads) if lead[0] < part and calls[k] == -1]
        for k in draw.sample(callers, min(len(callers), draw.randint(1, 2))):
            calls[k] = part
    rows = [lead + (call,) for lead, call in zip(leads, calls)]
    if any(part not in calls for part in range(1, len(places))):
        return drawn_web(seed + 1000003)
    return (places, rows)


def drawn_run(web, draw, most):
    """A run of the web: drawn for about so many rows, then by rows that lead nearer to the end alone."""
    far = [far_from_end(web, part) for part in range(len(web[0]))]
    run = []
    stack = [(0, 0)]
    while stack:
        part, place = stack[-1]
        if place == 1:
            stack.pop()
            continue
        open_rows = [number for number, row in enumerate(web[1]) if row[:2] == (part, place)]
        if len(run) >= most:
            open_rows = [number for number in open_rows if far[part][web[1][number][2]] < far[part][place]]
        number = draw.choice(open_rows)
        run.append(number)
        stack[-1] = (part, web[1][number][2])
        if web[1][number][3] >= 0:
            stack.append((web[1][number][3], 0))
    return run


def far_from_end(web, part):
    far = {1: 0}
    for step in itertools.count(1):
        new = [row[1] for row in web[1] if row[0] == part and row[1] not in far and far.get(row[2]) == step - 1]
        if not new:
            return far
        far.update((place, step) for place in new)


def drawn_heap(web, draw):
    return [drawn_run(web, draw, draw.randint(0, 12)) for run in range(draw.randint(0, 4))]


def parts_of(value):
    """All lists and tuples within a value, itself too."""
    found = [value] if isinstance(value, (list, tuple)) else []
    for inner in found[:1] and value:
        found += parts_of(inner)
    return found


def spoil(value):
    """Change every list within a value."""
    for part in parts_of(value):
        if isinstance(part, list):
            part.append(77)
            part.reverse()


def check_kept(case, function, *handed):
    """That a function changes nothing handed in, and tells new lists and tuples that are the asker's own."""
    before = copy.deepcopy(handed)
    told = function(*handed)
    case.assertEqual(handed, before)
    case.assertEqual(repr(handed), repr(before))
    first = copy.deepcopy(told)
    known = [id(part) for part in parts_of(handed)]
    shared = [part for part in parts_of(told) if id(part) in known]
    case.assertEqual(shared, [])
    again = function(*handed)
    case.assertEqual(again, first)
    known = [id(part) for part in parts_of(told)]
    case.assertEqual(len(known), len(set(known)))
    case.assertEqual([part for part in parts_of(again) if id(part) in known], [])
    spoil(told)
    case.assertEqual(again, first)
    case.assertEqual(handed, before)
    case.assertEqual(function(*handed), first)
    spoil(handed)
    case.assertEqual(again, first)
    case.assertEqual(function(*before), first)
