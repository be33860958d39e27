"""The machine: what a code is, and how the machine goes through it, state by state."""

from fewcounters.errors import NoCode
from fewcounters.walks import BOUND, ENDED, WANTING, YES, need_answers
from fewcounters.webs import is_whole

ROW = "row"
ASK = "ask"
JUMP = "jump"
CALL = "call"
BACK = "back"
COUNT = "count"
ADD = "add"
TELL = "tell"

# What stands behind each word: a number from 0 on, the number of a tuple of the code, or any whole number.
FORMS = {
    "row": ("from nought",),
    "ask": ("from nought", "from nought", "tuple"),
    "jump": ("tuple",),
    "call": ("from nought", "tuple", "any"),
    "back": (),
    "count": ("from nought",),
    "add": ("any",),
    "tell": ("from nought", "any"),
}
GOING = ("row", "ask", "call")

ASTRAY = "astray"
MOST_IDLE = 1000
NOWHERE = -1


class Machine:
    """A state that is changed tuple by tuple, for to tell a whole new one at each would take long."""

    def __init__(self, state):
        self.at = state[0]
        self.frames = triples(state[1])
        self.boxes = dict(state[2])
        self.told = triples(state[3])
        self.chain = state[4]
        self.rows = list(state[5])
        self.used = state[6]
        self.idle = state[7]


def triples(tuples):
    """New tuples with the same three things each."""
    return [(known[0], known[1], known[2]) for known in tuples]


def look_code(code):
    """None of a code; another list is refused."""
    if not isinstance(code, list) or not code:
        raise NoCode(0)
    for place, told in enumerate(code):
        if not is_tuple_of_code(told, len(code)):
            raise NoCode(place)


def is_tuple_of_code(told, size):
    """Whether a thing is a tuple that may stand in a code of so many tuples."""
    if not isinstance(told, tuple) or len(told) == 0:
        return False
    # Lists can't be looked for in a dict, so all but texts are turned away ahead of it.
    if not isinstance(told[0], str) or told[0] not in FORMS:
        return False
    form = FORMS[told[0]]
    if len(told) != len(form) + 1:
        return False
    return all([is_number_of(value, wanted, size) for value, wanted in zip(told[1:], form)])


def is_number_of(value, wanted, size):
    if not is_whole(value):
        return False
    if wanted == "any":
        return True
    return value >= 0 and (wanted != "tuple" or value < size)


def begun():
    """The first state."""
    return (0, [(NOWHERE, 0, 0)], [], [], 0, [], 0, 0)


def step(code, state, answers, bound):
    """The state behind the next tuple, or the text at which the machine stands still."""
    look_code(code)
    need_answers(answers, bound)
    machine = Machine(state)
    word = still_at(machine, code, answers, bound)
    if word is not None:
        return word
    do_next(machine, code, answers)
    return state_of(machine)


def run_code(code, answers, bound):
    """A tuple (word, state): the text at which the machine stands still, and the state in which it does."""
    look_code(code)
    need_answers(answers, bound)
    machine = Machine(begun())
    word = still_at(machine, code, answers, bound)
    while word is None:
        do_next(machine, code, answers)
        word = still_at(machine, code, answers, bound)
    return (word, state_of(machine))


def state_of(machine):
    boxes = [(box, machine.boxes[box]) for box in sorted(machine.boxes)]
    return (machine.at, triples(machine.frames), boxes, triples(machine.told), machine.chain, list(machine.rows),
            machine.used, machine.idle)


def still_at(machine, code, answers, bound):
    """The text at which the machine stands still, or None where it can do its next tuple."""
    if machine.at == len(code) or machine.idle >= MOST_IDLE:
        return ASTRAY
    kind = code[machine.at][0]
    if kind in GOING and len(machine.rows) >= bound:
        return BOUND
    if kind == ASK and machine.used >= len(answers):
        return WANTING
    if kind == BACK and len(machine.frames) == 1:
        return ENDED
    return None


def do_next(machine, code, answers):
    """Change the machine to what it is behind its next tuple, at which it must not stand still."""
    told = code[machine.at]
    kind = told[0]
    machine.idle = 0 if kind in GOING else machine.idle + 1
    machine.at += 1
    if kind == ROW:
        machine.rows.append(told[1])
    elif kind == ASK:
        ask(machine, told, answers[machine.used])
    elif kind == JUMP:
        machine.at = told[1]
    elif kind == CALL:
        call(machine, told)
    elif kind == COUNT:
        machine.boxes[told[1]] = machine.boxes.get(told[1], 0) + 1
    elif kind == ADD:
        set_sum(machine, machine.frames[-1][1] + told[1])
    elif kind == TELL:
        machine.told.append((told[1], machine.chain, machine.frames[-1][1]))
        set_sum(machine, told[2])
    else:
        go_back(machine)


def ask(machine, told, answer):
    machine.used += 1
    if answer == YES:
        machine.rows.append(told[1])
    else:
        machine.rows.append(told[2])
        machine.at = told[3]


def call(machine, told):
    machine.rows.append(told[1])
    machine.frames.append((machine.at, 0, machine.chain))
    machine.chain += told[3]
    machine.at = told[2]


def set_sum(machine, number):
    """Give the innermost frame the number as its sum."""
    frame = machine.frames[-1]
    machine.frames[-1] = (frame[0], number, frame[2])


def go_back(machine):
    frame = machine.frames.pop()
    machine.at = frame[0]
    machine.chain = frame[2]
