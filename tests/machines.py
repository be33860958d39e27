"""Codes for the tests, and plain ways to find what the machine does and what codes of programs tell."""

import random

import samples

# A code with each kind of tuple: a question, a call of what counts, adds and tells, and a round.
ALL_KINDS = [
    ("ask", 3, 4, 3),
    ("call", 7, 5, -2),
    ("jump", 0),
    ("row", 9),
    ("back",),
    ("count", 6),
    ("add", 5),
    ("tell", 2, -3),
    ("back",),
]

FROM_0 = [0, 1, 7, 10 ** 29, 10 ** 30 - 1]
ANY = FROM_0 + [-1, -7, -10 ** 29, 1 - 10 ** 30]
NO_NUMBERS = [None, True, False, "", "0", (), (0,), [], [0]]
KINDS = {"row": "r", "ask": "rrt", "jump": "t", "call": "rtn", "back": "", "count": "r", "add": "n", "tell": "rn"}


def values(form, size):
    """(right, wrong) numbers of a tuple in a code of that size: r from 0 on, t a tuple's number, n any."""
    if form == "r":
        return FROM_0, [-1, -2, -10 ** 29] + NO_NUMBERS
    if form == "t":
        return list(range(size)), [-1, -size, size, size + 1, 10 ** 29, -10 ** 29] + NO_NUMBERS
    return ANY, NO_NUMBERS


def right_tuples(size):
    """Tuples of each kind that may stand in a code of that size."""
    found = []
    for kind, form in KINDS.items():
        base = [0] * len(form)
        found.append((kind,) + tuple(base))
        for place, letter in enumerate(form):
            for number in values(letter, size)[0]:
                found.append((kind,) + tuple(base[:place] + [number] + base[place + 1:]))
    return found


def wrong_things(size):
    """Things that may not stand in a code of that size: each wrong at one place alone."""
    found = [None, True, False, 0, 1, "", "row", "back", (), [], ["back"], ["row", 0], [("back",)], (("back",),),
             ("Row", 0), ("", 0), ("rows", 0), ("row ", 0), ("end",), ("back", None), (None,), (None, 0), (True, 0), (0,),
             (0, 0), (["row"], 0), (("row",), 0), ([],), ((),), ("back", "back"), (["back"],), (0, "row")]
    for kind, form in KINDS.items():
        base = [0] * len(form)
        found += [(kind,) + tuple(base) + (more,) for more in (0, None, "", (), [])]
        found += [(kind,) + tuple(base[1:])] * (len(base) > 0) + [[kind] + base]
        for place, letter in enumerate(form):
            for number in values(letter, size)[1]:
                found.append((kind,) + tuple(base[:place] + [number] + base[place + 1:]))
    return found


def plain_step(code, state, answers, bound):
    """The state behind the next tuple, or a text, by point 25 sentence by sentence."""
    at, frames, boxes, told, chain, rows, used, idle = state
    if at == len(code) or idle == 1000:
        return "astray"
    kind, *more = code[at]
    going = {"row": 1, "ask": 1, "call": 1}.get(kind, 0)
    if going and len(rows) >= bound:
        return "bound"
    if kind == "ask" and used >= len(answers):
        return "wanting"
    if kind == "back" and len(frames) == 1:
        return "ended"
    onward = at + 1
    back, total, kept = frames[-1]
    if kind == "row":
        rows = rows + more
    if kind == "ask":
        rows, onward = (rows + [more[0]], onward) if answers[used] else (rows + [more[1]], more[2])
        used += 1
    if kind == "call":
        rows, frames, chain, onward = rows + [more[0]], frames + [(at + 1, 0, chain)], chain + more[2], more[1]
    if kind == "jump":
        onward = more[0]
    if kind == "count":
        boxes = sorted((dict(boxes) | {more[0]: dict(boxes).get(more[0], 0) + 1}).items())
    if kind == "add":
        frames = frames[:-1] + [(back, total + more[0], kept)]
    if kind == "tell":
        told, frames = told + [(more[0], chain, total)], frames[:-1] + [(back, more[1], kept)]
    if kind == "back":
        frames, chain, onward = frames[:-1], kept, back
    return (onward, frames, boxes, told, chain, rows, used, 0 if going else idle + 1)


def plain_states(code, answers, bound):
    """All states from the first on, and the text at which the machine stands still."""
    states = [(0, [(-1, 0, 0)], [], [], 0, [], 0, 0)]
    while True:
        state = plain_step(code, states[-1], answers, bound)
        if isinstance(state, str):
            return states, state
        states.append(state)


def drawn_code(seed):
    draw = random.Random(seed)
    size = draw.randint(1, 12)
    kinds = draw.choice([list(KINDS), ["row", "ask", "call", "back", "tell"], ["jump", "count", "add", "ask", "back"]])
    code = []
    for place in range(size):
        kind = draw.choice(kinds)
        numbers = {"r": lambda: draw.choice([0, 1, 2, 9]), "t": lambda: draw.randrange(size),
                   "n": lambda: draw.randint(-5, 5)}
        code.append((kind,) + tuple(numbers[letter]() for letter in KINDS[kind]))
    return code


def plain_going(web, rows):
    """What happens as rows are gone through: ("done", part, row) of each row with all that it calls, and
    ("ended", part, chain) of each part with the rows that called it, in order.
    """
    happened = []
    stack = [[0, 0, None, []]]
    for number in rows:
        part, start, to, calls = web[1][number]
        stack[-1][1:3] = [to, number]
        if calls >= 0:
            stack.append([calls, 0, None, stack[-1][3] + [number]])
            continue
        happened.append(("done", part, number))
        while stack and stack[-1][1] == 1:
            part, place, last, chain = stack.pop()
            happened.append(("ended", part, chain))
            if stack:
                happened.append(("done", stack[-1][0], stack[-1][2]))
    return happened


def plain_numbers_told(web, rows):
    """(part, 0, number) of each stretch that ended, in the order in which they did."""
    known = [samples.plain_stretch_rows(web, part) for part in range(len(web[0]))]
    told = []
    under_way = {}
    for what, part, more in plain_going(web, rows):
        # Calls go to greater parts alone, so of each part one going through is under way at most.
        kept, starts, ends, leads = known[part]
        way = under_way.setdefault(part, [])
        if what == "ended" or more in ends:
            way += [ends[more]] if what == "done" else []
            told.append((part, 0, samples.plain_number(leads, way)))
            under_way[part] = [starts[more]] if what == "done" and more in starts else []
        else:
            way.append(kept[more])
    return told


def plain_chain_number(web, part, chain):
    return samples.plain_chains(web, part).index(chain)


def plain_chains_told(web, rows):
    """(part, number of the chain, 0) of each part that ended, in the order in which they did."""
    return [(part, plain_chain_number(web, part, more), 0) for what, part, more in plain_going(web, rows)
            if what == "ended"]
