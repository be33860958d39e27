"""Makers: codes of a program, that go through its rows plainly, with counters, with stretches' or chains' numbers."""

from fewcounters.chains import offsets
from fewcounters.finder import need_choice
from fewcounters.machine import ADD, ASK, BACK, CALL, COUNT, JUMP, ROW, TELL
from fewcounters.program_webs import web_of
from fewcounters.stretching import cuts, laid_out, stretch_web
from fewcounters.ways import steps
from fewcounters.webs import END, FIRST_PART, NO_CALL, at_begin, rows_leaving


class Beside:
    """What a code does beside going through the rows of a web; at first nothing.

    entering holds for each row the tuples that are done as soon as it is gone through, a call's ahead of the called
    part; behind those that are done at last, a call's when the called part has ended. closing holds for each part the
    tuples at its end. numbers holds for each row what it adds to the chain where it calls.
    """

    def __init__(self, web):
        self.entering = [[] for row in web[1]]
        self.behind = [[] for row in web[1]]
        self.closing = [[] for part in web[0]]
        self.numbers = [0] * len(web[1])


def plain_code(text):
    """A code that goes through the program's rows."""
    web = web_of(text)
    return code_of(web, Beside(web))


def counted_code(text, choice):
    """A code that counts each chosen row in the box of its number."""
    web = web_of(text)
    need_choice(web, choice)
    beside = Beside(web)
    for number in choice:
        # A run may break off within the part that a row calls, and has gone through the row then.
        beside.entering[number].append((COUNT, number))
    return code_of(web, beside)


def numbered_code(text):
    """A code that tells the number of each stretch, when it ends, in the frame's sum."""
    web = web_of(text)
    beside = Beside(web)
    for part in range(len(web[0])):
        add_stretches(web, part, beside)
    return code_of(web, beside)


def add_stretches(web, part, beside):
    """Put to beside what makes and tells the numbers of the part's stretches.

    A cut ends a stretch; the telling of its number sets the sum to what the next stretch begins with, so that the
    rows of the stretch web by which stretches begin need no sums of their own.
    """
    known = steps(stretch_web(web, part), FIRST_PART)
    started = {}
    for place, row in enumerate(laid_out(web, part)):
        if not row[3]:
            started[row[2]] = known[place]
        elif known[place] != 0:
            beside.behind[row[2]].append((ADD, known[place]))
    for number in cuts(web, part):
        beside.behind[number].append((TELL, part, started.get(number, 0)))
    beside.closing[part].append((TELL, part, 0))


def chained_code(text):
    """A code that tells of each part, when it ends, the number of the chain by which it was come to."""
    web = web_of(text)
    beside = Beside(web)
    beside.numbers = offsets(web)
    for part in range(len(web[0])):
        beside.closing[part].append((TELL, part, 0))
    return code_of(web, beside)


def code_of(web, beside):
    """The code that goes through the web's rows and does what is told beside: a block for each place of each part."""
    starts = {}
    for part, size in enumerate(web[0]):
        for place in range(size):
            starts[(part, place)] = 0
    # How long a block is doesn't hang on where blocks start, so it is known ahead of that.
    total = 0
    for spot in list(starts):
        starts[spot] = total
        total += len(block_at(web, beside, spot, starts))
    code = []
    for spot in starts:
        code.extend(block_at(web, beside, spot, starts))
    return code


def block_at(web, beside, spot, starts):
    """The tuples at a place, told as (part, place), by the numbers at which the blocks start."""
    if spot[1] == END:
        return beside.closing[spot[0]] + [(BACK,)]
    # At each place of a program's web one row begins, or the yes and the no of one question.
    found = rows_leaving(web, spot[0])[spot[1]]
    number = found[0]
    called = web[1][number][3]
    if len(found) > 1:
        yes = beside.entering[number] + onward(web, beside, number, starts)
        no = beside.entering[found[1]] + onward(web, beside, found[1], starts)
        return [(ASK, number, found[1], starts[spot] + 1 + len(yes))] + yes + no
    if called == NO_CALL:
        return [(ROW, number)] + beside.entering[number] + onward(web, beside, number, starts)
    outward = onward(web, beside, number, starts)
    inward = beside.entering[number] + [(JUMP, starts[at_begin(called)])]
    return [(CALL, number, starts[spot] + 1 + len(outward), beside.numbers[number])] + outward + inward


def onward(web, beside, number, starts):
    """What is done when a row is gone through with all that it calls: at last the jump to where it leads."""
    return beside.behind[number] + [(JUMP, starts[(web[1][number][0], web[1][number][2])])]
