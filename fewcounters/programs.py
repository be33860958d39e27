"""Programs: which texts are programs, and which of these have a web."""

from fewcounters.errors import NoProgram
from fewcounters.spots import SENTENCES, Spots, places_in
from fewcounters.webs import MOST_PARTS, MOST_PLACES

MOST_PROGRAM_ROWS = 30


def looked(text):
    """None of a program that has a web; another text is refused."""
    need_program(text)


def need_program(text):
    """The spots of a program that has a web; another text is refused."""
    spots = Spots(text)
    found = hindrances(spots)
    if found:
        raise NoProgram(min(found))
    return spots


def hindrances(spots):
    """The numbers of all words that keep a program from having a web, in any order."""
    found = named_again(spots) + called_astray(spots) + not_come_to(spots) + not_called(spots)
    return found + ended_at_begin(spots) + rows_beyond(spots) + places_beyond(spots) + parts_beyond(spots)


def name_words(spots, parts):
    """The numbers of the words behind the parts."""
    return [spots.steps[part[1]].word + 1 for part in parts]


def named_again(spots):
    names = [part[0] for part in spots.parts]
    return name_words(spots, [part for place, part in enumerate(spots.parts) if part[0] in names[:place]])


def called_astray(spots):
    """The names behind calls that no part behind their own has."""
    found = []
    behind = {}
    for step in reversed(spots.steps):
        if step.kind == "part":
            behind[step.name] = True
        if step.kind == "call" and step.name not in behind:
            found.append(step.word + 1)
    return found


def come_to(spots):
    """A dict of True by each step to which a run of its part can come."""
    found = {}
    waiting = [part[1] for part in spots.parts]
    while waiting:
        number = waiting.pop()
        if number not in found:
            found[number] = True
            waiting.extend(spots.leads[number])
    return found


def not_come_to(spots):
    known = come_to(spots)
    lost = [step for number, step in enumerate(spots.steps) if number not in known]
    return [step.word for step in lost if step.kind in SENTENCES]


def not_called(spots):
    called = [step.name for step in spots.steps if step.kind == "call"]
    return name_words(spots, [part for part in spots.parts[1:] if part[0] not in called])


def ended_at_begin(spots):
    """The names behind parts whose begin is their end; those without rows are among them."""
    return name_words(spots, [part for part in spots.parts if spots.stands[part[1]] == part[2]])


def rows_beyond(spots):
    return [spots.steps[row[0]].word for row in spots.rows[MOST_PROGRAM_ROWS:]]


def places_beyond(spots):
    """The names behind parts with too many places, where a run of the part can come to all of its rows."""
    known = come_to(spots)
    lost = [row[0] for row in spots.rows if row[0] not in known]
    found = []
    for number, part in enumerate(spots.parts):
        whole = not any([part[1] < row < part[2] for row in lost])
        if whole and len(places_in(spots, number)) > MOST_PLACES:
            found.append(part)
    return name_words(spots, found)


def parts_beyond(spots):
    return name_words(spots, spots.parts[MOST_PARTS:])
