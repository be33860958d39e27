"""Texts for the tests, and plain ways to find what is wrong with them, their webs and walks without the program.

A text is read into a tree: a list of parts (name, word, inner), word the number of its name and inner a list of
sentences, each a tuple (kind, word, name, inner, other), word the number of its first word.
"""

import itertools
import random
import sys

# Trees are read and gone through by calls within calls, and a text's lists stand in one another many deep.
sys.setrecursionlimit(30000)

WORDS = ["part", "do", "call", "if", "else", "while", "end", "leave", "back"]

# Each kind of sentence, empty lists, lists side by side and in one another, calls of several parts.
PLAIN = "part a do b end"
FORK = "part a if b do c else end do d end"
ROUND = "part a while b do c end end"
EMPTY_ROUND = "part a while b end end"
EMPTY_FORK = "part a if b else end end"
LEAVES = "part main while more if stop leave else do work end end do last end"
BACKS = "part main if early back else end while more do work if late back else end end end"
CALLS = ("part main call one while again call two end call one end part one do x call two end "
         "part two if y back else do z end end")
DEEP = ("part a while b while c if d leave else while e if f leave else if g back else end end end end do h end "
        "do i end end")
NAMES = "part part do do call call if if while while leave end else back end end part call do else end"
FOUR = "part a call b call c end part b call c call d end part c while x call d end end part d do y do z end"
GOOD = [PLAIN, FORK, ROUND, EMPTY_ROUND, EMPTY_FORK, LEAVES, BACKS, CALLS, DEEP, NAMES, FOUR]


class Fault(Exception):
    """What is wrong with a text, at a word's number."""

    def __init__(self, word):
        Exception.__init__(self, word)
        self.word = word


def plain_is_name(word):
    return 1 <= len(word) <= 8 and all(sign in "abcdefghijklmnopqrstuvwxyz" for sign in word)


def plain_tree(text):
    """The tree of a text; a Fault where it is no program."""
    words = text.split(" ")
    parts = []
    place = 0
    while place < len(words) or not parts:
        need_word(words, place, ["part"])
        name = need_name(words, place + 1)
        inner, end = plain_list(words, place + 2, ["end"], False)
        parts.append((name, place + 1, inner))
        place = end + 1
    return parts


def need_word(words, place, known):
    if place >= len(words) or words[place] not in known:
        raise Fault(place)


def need_name(words, place):
    if place >= len(words) or not plain_is_name(words[place]):
        raise Fault(place)
    return words[place]


def plain_list(words, place, closing, rounds):
    """The sentences from a place on, and the place of the word that closes their list."""
    found = []
    while True:
        need_word(words, place, ["do", "call", "if", "while", "back"] + ["leave"] * rounds + closing)
        kind = words[place]
        if kind in closing:
            return found, place
        if kind in ("leave", "back"):
            found.append((kind, place, "", [], []))
            place += 1
            continue
        name = need_name(words, place + 1)
        inner, other, end = [], [], place + 1
        if kind == "while":
            inner, end = plain_list(words, place + 2, ["end"], True)
        if kind == "if":
            inner, end = plain_list(words, place + 2, ["else"], rounds)
            other, end = plain_list(words, end + 1, ["end"], rounds)
        found.append((kind, place, name, inner, other))
        place = end + 1


def sentences(inner):
    """All sentences of a list and of the lists within it, in the order of their words."""
    found = []
    for sentence in inner:
        found.append(sentence)
        found += sentences(sentence[3]) + sentences(sentence[4])
    return found


def plain_rows(tree):
    """For each row (word, name, number of the sentence's word)."""
    found = []
    for name, word, inner in tree:
        for kind, place, called, yes, no in sentences(inner):
            if kind in ("do", "call"):
                found.append((kind, called, place))
            if kind in ("if", "while"):
                found += [("yes", called, place), ("no", called, place)]
    return found


def plain_lost(inner, live, lost):
    """Whether one comes through the list; to lost the words of the sentences to which one doesn't come are added."""
    for kind, word, name, yes, no in inner:
        if not live:
            lost.append(word)
        if kind == "if":
            through = [plain_lost(yes, live, lost), plain_lost(no, live, lost)]
            live = any(through)
        if kind == "while":
            plain_lost(yes, live, lost)
        if kind in ("leave", "back"):
            live = False
    return live


def plain_leads(part):
    """(begin, end, leads) of a part: leads by a sentence's word the spots to which its rows lead.

    A spot is the word of the sentence that comes next, or -1 at the part's end. A list is gone through from its last
    sentence to its first, each told where one goes on behind it.
    """
    leads = {}

    def enter(inner, behind, out):
        for kind, word, name, yes, no in reversed(inner):
            if kind in ("do", "call"):
                leads[word] = [behind]
            if kind == "if":
                leads[word] = [enter(yes, behind, out), enter(no, behind, out)]
            if kind == "while":
                leads[word] = [enter(yes, word, behind), behind]
            behind = {"leave": out, "back": -1}.get(kind, word)
        return behind

    return enter(part[2], -1, None), -1, leads


def plain_places(part):
    """By each spot of a part the number of its place."""
    begin, end, leads = plain_leads(part)
    order = [begin, end]
    for word in sorted(leads):
        for to in leads[word]:
            order += [word, to]
    return {spot: number for number, spot in enumerate(dict.fromkeys(order))}


def plain_hindrances(tree):
    """All words that keep a program from having a web, by what is wrong with each."""
    names = [name for name, word, inner in tree]
    found = {"again": [word for k, (name, word, inner) in enumerate(tree) if name in names[:k]]}
    found["fifth"] = [word for name, word, inner in tree[4:5]]
    calls = [(k, sentence) for k, part in enumerate(tree) for sentence in sentences(part[2]) if sentence[0] == "call"]
    found["astray"] = [sentence[1] + 1 for k, sentence in calls if sentence[2] not in names[k + 1:]]
    called = [sentence[2] for k, sentence in calls]
    found["uncalled"] = [word for name, word, inner in tree[1:] if name not in called]
    found["rows"] = [place for word, name, place in plain_rows(tree)[30:]][:1]
    found["lost"], found["places"], found["empty"] = [], [], []
    for part in tree:
        lost = []
        plain_lost(part[2], True, lost)
        found["lost"] += lost
        rows = [sentence[1] for sentence in sentences(part[2]) if sentence[0] in ("do", "call", "if", "while")]
        if not set(rows) & set(lost) and len(plain_places(part)) > 16:
            found["places"].append(part[1])
        begin, end, leads = plain_leads(part)
        if begin == end or not rows:
            found["empty"].append(part[1])
    return found


def plain_looked(text):
    """None, ("text", word) or ("program", word)."""
    try:
        tree = plain_tree(text)
    except Fault as fault:
        return ("text", fault.word)
    found = sorted(word for words in plain_hindrances(tree).values() for word in words)
    return ("program", found[0]) if found else None


def plain_web(text):
    tree = plain_tree(text)
    names = [name for name, word, inner in tree]
    rows = []
    sizes = []
    for number, part in enumerate(tree):
        begin, end, leads = plain_leads(part)
        places = plain_places(part)
        sizes.append(len(places))
        for kind, word, name, yes, no in sentences(part[2]):
            calls = names.index(name) if kind == "call" else -1
            rows += [(number, places[word], places[to], calls) for to in leads.get(word, [])]
    return (sizes, rows)


class Stop(Exception):
    """Why a walk stands still."""


class Leave(Exception):
    """A while is left."""


class Back(Exception):
    """A part is left."""


def plain_walk(text, answers, bound):
    """(rows, word) of a walk, gone sentence by sentence."""
    tree = plain_tree(text)
    known = plain_rows(tree)
    first = {}
    for number, (word, name, place) in enumerate(known):
        first.setdefault(place, number)
    rows = []
    left = list(answers)

    def go(number):
        if len(rows) >= bound:
            raise Stop("bound")
        rows.append(number)

    def ask(word):
        if len(rows) < bound and not left:
            raise Stop("wanting")
        go(first[word] + (0 if left[:1] == [1] else 1))
        return left.pop(0) == 1

    def go_list(inner):
        for kind, word, name, yes, no in inner:
            if kind == "leave":
                raise Leave
            if kind == "back":
                raise Back
            if kind == "if":
                go_list(yes if ask(word) else no)
            if kind == "while":
                go_round(word, yes)
            if kind in ("do", "call"):
                go(first[word])
            if kind == "call":
                go_part([part for part in tree if part[0] == name][0])

    def go_round(word, yes):
        try:
            while ask(word):
                go_list(yes)
        except Leave:
            pass

    def go_part(part):
        try:
            go_list(part[2])
        except Back:
            pass

    try:
        go_part(tree[0])
    except Stop as stop:
        return rows, stop.args[0]
    return rows, "ended"


def lists_of(count, rounds, known):
    """All lists of sentences of just so many words, with a as the only name; known keeps those found."""
    if (count, rounds) in known:
        return known[count, rounds]
    found = [[]] if count == 0 else []
    for first in range(1, count + 1):
        for sentence in sentences_of(first, rounds, known):
            found += [sentence + others for others in lists_of(count - first, rounds, known)]
    known[count, rounds] = found
    return found


def sentences_of(count, rounds, known):
    found = []
    if count == 1:
        found += [["back"]] + [["leave"]] * rounds
    if count == 2:
        found += [["do", "a"], ["call", "a"]]
    if count >= 3:
        found += [["while", "a"] + inner + ["end"] for inner in lists_of(count - 3, True, known)]
    for size in range(count - 3):
        found += [["if", "a"] + yes + ["else"] + no + ["end"] for yes in lists_of(size, rounds, known)
                  for no in lists_of(count - 4 - size, rounds, known)]
    return found


def programs_of(most):
    """All programs of at most so many words, as lists of words, with a as the only name."""
    known = {}
    one = [["part", "a"] + inner + ["end"] for count in range(most - 2) for inner in lists_of(count, False, known)]
    found = list(one)
    more = one
    while more:
        # The least part has three words.
        more = [first + rest for first in more if len(first) <= most - 3 for rest in one
                if len(first) + len(rest) <= most]
        found += more
    return found


def drawn_list(draw, deep, rounds, names, room):
    """A list of sentences drawn; room is a list whose one number says for how many more sentences there is room."""
    words = []
    while room[0] > 0 and draw.random() < 0.75:
        room[0] -= 1
        kind = draw.choice(["do", "do", "if", "if", "while", "while"] if deep else ["do"])
        if names and draw.random() < 0.3:
            kind = "call"
        words += [kind, draw.choice(names) if kind == "call" else draw.choice(["x", "yes", "do", "end", "abcdefgh"])]
        if kind == "if":
            words += drawn_list(draw, deep - 1, rounds, names, room) + ["else"]
            words += drawn_list(draw, deep - 1, rounds, names, room) + ["end"]
        if kind == "while":
            words += drawn_list(draw, deep - 1, True, names, room) + ["end"]
        if draw.random() < 0.01:
            words.append("back")
    if draw.random() < 0.15:
        words.append(draw.choice(["back"] + ["leave"] * 3 * rounds))
    return words


def drawn_text(seed):
    """A text drawn by the seed, a program by its form; it may have no web."""
    draw = random.Random(seed)
    names = ["main", "one", "two", "three", "four"][:draw.choice([1, 2, 2, 3, 3, 4, 4, 5])]
    if draw.random() < 0.05:
        names[draw.randrange(len(names))] = draw.choice(names)
    words = []
    for number, name in enumerate(names):
        callable_names = names if draw.random() < 0.05 else names[number + 1:]
        first = ["call", draw.choice(callable_names)] if callable_names else ["do", "it"]
        inner = drawn_list(draw, draw.randint(0, 4), False, callable_names, [draw.randint(1, 15)])
        words += ["part", name] + (first if draw.random() < 0.8 else []) + inner + ["end"]
    return " ".join(words)


def drawn_programs(count):
    """Texts drawn that are programs and have webs."""
    found = []
    for seed in itertools.count():
        text = drawn_text(seed)
        if plain_looked(text) is None:
            found.append(text)
        if len(found) == count:
            return found


def near_texts(text, draw):
    """Texts with one word put in, left out, exchanged or moved, and cut behind a word."""
    words = text.split(" ")
    place = draw.randrange(len(words))
    other = draw.choice(WORDS + ["a", "main", "", "A", "abcdefghi", "x1"])
    moved = words[:place] + words[place + 1:]
    moved.insert(draw.randint(0, len(moved)), words[place])
    second = draw.randrange(len(words))
    changed = list(words)
    changed[place], changed[second] = words[second], words[place]
    near = [words[:place] + [other] + words[place:], words[:place] + words[place + 1:],
            words[:place] + [other] + words[place + 1:], moved, changed, words[:place + 1], words[place:],
            words[:place] + words[second:], words + words[place:]]
    return [" ".join(told) for told in near]
