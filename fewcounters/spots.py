"""Spots: the steps that a program's text is made of, its rows, and where one stands between them."""

from fewcounters.errors import NoText
from fewcounters.webs import BEGIN, END

MOST_LETTERS = 8
NO_STEP = -1

NAMED = ("part", "do", "call", "if", "while")
SENTENCES = ("do", "call", "if", "while", "leave", "back")
OPENING = ("part", "if", "else", "while")
CLOSING = ("else", "end")
ROW_WORDS = {"do": ("do",), "call": ("call",), "if": ("yes", "no"), "while": ("yes", "no")}


class Step:
    """A word of a text that is no name, with the name behind it, if one stands there.

    kind is the word itself, word its number, and within the number of the step in whose list it stands, or whose list
    it closes: an else closes that of its if, and the end behind it that of the else.
    """

    def __init__(self, kind, name, word, within):
        self.kind = kind
        self.name = name
        self.word = word
        self.within = within


class Spots:
    """The steps of a text, its parts and its rows, and for each step where one goes on.

    leads holds for each step those to which one goes on from it, at an if or while for the yes, then for the no.
    stands holds for each step the one at which one comes to stand who comes to it: one with rows, or its part's end.
    parts holds a tuple (name, first, last) for each part, of its first step and of its end. rows holds a tuple (from,
    to, word, name) for each row; from and to are steps at which one stands.
    """

    def __init__(self, text):
        self.steps = read(text)
        self.parts = parts_in(self.steps)
        self.leads = leads_in(self.steps)
        self.stands = stands_in(self.steps, self.leads)
        self.rows = rows_in(self.steps, self.leads, self.stands)


def read(text):
    """The steps of a text; what is no program is refused."""
    words = text.split(" ")
    steps = []
    opened = []
    word = 0
    while word < len(words):
        kind = words[word]
        if not may_stand(kind, [steps[number].kind for number in opened]):
            raise NoText(word)
        name = name_behind(words, word) if kind in NAMED else ""
        steps.append(Step(kind, name, word, opened[-1] if opened else NO_STEP))
        if kind in CLOSING:
            opened.pop()
        if kind in OPENING:
            opened.append(len(steps) - 1)
        word += 2 if kind in NAMED else 1
    if opened:
        raise NoText(len(words))
    return steps


def may_stand(kind, opened):
    """Whether a word, no name, may stand where lists of steps of these kinds, the innermost last, are open."""
    if not opened:
        return kind == "part"
    if kind == "leave":
        return "while" in opened
    if kind == "else":
        return opened[-1] == "if"
    if kind == "end":
        return opened[-1] != "if"
    return kind in SENTENCES


def name_behind(words, word):
    if word + 1 == len(words) or not is_name(words[word + 1]):
        raise NoText(word + 1)
    return words[word + 1]


def is_name(word):
    return 1 <= len(word) <= MOST_LETTERS and all(["a" <= sign <= "z" for sign in word])


def closing_steps(steps):
    """A dict by each step that opens a list of the one that closes it."""
    closing = {}
    for number, step in enumerate(steps):
        if step.kind in CLOSING:
            closing[step.within] = number
    return closing


def parts_in(steps):
    closing = closing_steps(steps)
    return [(step.name, number, closing[number]) for number, step in enumerate(steps) if step.kind == "part"]


def leads_in(steps):
    closing = closing_steps(steps)
    return [leads_from(steps, closing, number) for number in range(len(steps))]


def leads_from(steps, closing, number):
    """The steps to which one goes on from a step."""
    kind = steps[number].kind
    ended = steps[steps[number].within].kind if kind == "end" else ""
    if kind in ("if", "while"):
        return [number + 1, closing[number] + 1]
    if kind == "else":
        return [closing[number]]
    if kind == "leave":
        return [closing[around(steps, number, "while")] + 1]
    if kind == "back":
        return [closing[around(steps, number, "part")]]
    if ended == "while":
        return [steps[number].within]
    return [] if ended == "part" else [number + 1]


def around(steps, number, kind):
    """The innermost step of the kind in whose list, or in a list within it, a step stands."""
    found = steps[number].within
    while steps[found].kind != kind:
        found = steps[found].within
    return found


def stands_in(steps, leads):
    told = list(range(len(steps)))
    # One who doesn't stand at a step goes on to a later one, or from the end of a while to the while, where one stands.
    for number in range(len(steps) - 1, -1, -1):
        if leads[number] and steps[number].kind not in ROW_WORDS:
            told[number] = told[leads[number][0]]
    return told


def rows_in(steps, leads, stands):
    told = []
    for number, step in enumerate(steps):
        for word, lead in zip(ROW_WORDS.get(step.kind, ()), leads[number]):
            told.append((number, stands[lead], word, step.name))
    return told


def part_at(spots, number):
    """The number of the part in which a step stands."""
    return len([part for part in spots.parts if part[1] <= number]) - 1


def places_in(spots, part):
    """A dict by the steps at which one stands in the part of the numbers of its places."""
    first = spots.parts[part][1]
    last = spots.parts[part][2]
    told = {spots.stands[first]: BEGIN, last: END}
    for row in spots.rows:
        if first < row[0] < last:
            for step in row[:2]:
                told.setdefault(step, len(told))
    return told
