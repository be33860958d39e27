"""The desk: programs kept by names, each with a plan and a log, and asked by rows of text."""

from fewcounters.chains import chains
from fewcounters.errors import NoAnswer, NoGuess, NoName, NoRow
from fewcounters.finder import plan_for
from fewcounters.logs import Log
from fewcounters.program_webs import names_of, web_of
from fewcounters.programs import need_program
from fewcounters.spots import is_name
from fewcounters.stretching import stretch_web
from fewcounters.ways import ways
from fewcounters.webs import FIRST_PART

# How many words each row has, by its first one, and those that may have more.
SIZES = {
    "put": 3,
    "drop": 2,
    "names": 1,
    "show": 2,
    "guess": 2,
    "counters": 2,
    "run": 4,
    "report": 2,
    "chains": 2,
    "ways": 3,
    "rows": 2,
}
LONGER = ("put", "guess")

OK = "ok"
NO_ANSWERS = "-"
FIGURES = "0123456789"
MOST_FIGURES = 30


class Desk:
    """Keeps a log by each name; the log has the program's text and what it needs of the plan."""

    def __init__(self):
        self.logs = {}

    def say(self, row):
        """The answer to a row of text."""
        words = row.split(" ")
        need_row(words)
        if words[0] == "names":
            return list_told(sorted(self.logs))
        name = words[1]
        if words[0] == "put":
            self.logs[name] = log_put(name, " ".join(words[2:]))
            return OK
        if name not in self.logs:
            raise NoName("no program stands by the name")
        if words[0] == "drop":
            self.logs.pop(name)
            return OK
        if words[0] == "guess":
            self.logs[name] = log_guessed(self.logs[name], words[2:])
            return OK
        if words[0] == "run":
            return self.logs[name].put(answers_in(words[2]), bound_in(words[3]))
        return told_of(self.logs[name], words)


def need_row(words):
    wanted = SIZES.get(words[0], 0)
    if wanted == 0 or len(words) < wanted or (len(words) > wanted and words[0] not in LONGER):
        raise NoRow("no row that the desk knows")


def log_put(name, text):
    """An empty log of the text, with a plan without guesses."""
    if not is_name(name):
        raise NoName("no name")
    return Log(text, plan_for(web_of(text), None))


def log_guessed(log, words):
    """An empty log of the same text, with a cheapest plan by the guesses that the words tell."""
    if not all([is_number(word) for word in words]):
        raise NoGuess("a guess that is no number")
    return Log(log.text, plan_for(log.web, [int(word) for word in words]))


def is_number(word):
    """Whether the word is figures, not too many, without a nought ahead of another figure."""
    if not 1 <= len(word) <= MOST_FIGURES or not all([sign in FIGURES for sign in word]):
        return False
    return len(word) == 1 or word[0] != "0"


def answers_in(word):
    if word == NO_ANSWERS:
        return []
    if word == "" or not all([sign in "01" for sign in word]):
        raise NoAnswer("answers that are not 0 or 1")
    return [int(sign) for sign in word]


def bound_in(word):
    if not is_number(word):
        raise NoAnswer("a bound that is no number")
    return int(word)


def told_of(log, words):
    """The answer to a row that changes nothing and is asked of one program."""
    if words[0] == "show":
        return log.text
    if words[0] == "counters":
        return list_told(log.choice)
    if words[0] == "report":
        return list_told(log.report())
    if words[0] == "chains":
        return list_told(chains(log.web))
    if words[0] == "ways":
        return str(ways(stretch_web(log.web, part_called(log.text, words[2])), FIRST_PART))
    return list_told([f"{word}:{name}" for word, name in names_of(log.text)])


def part_called(text, name):
    """The number of the program's part of that name."""
    names = [part[0] for part in need_program(text).parts]
    if name not in names:
        raise NoName("no part of the program has the name")
    return names.index(name)


def list_told(things):
    return " ".join([str(thing) for thing in things])
