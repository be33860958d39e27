"""The plain walk: which rows a program goes through by answers, and where it stands then."""

from fewcounters.errors import NoAnswer
from fewcounters.program_webs import web_of
from fewcounters.webs import FIRST_PART, are_whole, at_begin, go, is_whole, rows_leaving

YES = 1
ENDED = "ended"
BOUND = "bound"
WANTING = "wanting"


def walked(text, answers, bound):
    """A tuple (rows, word, stack): the rows gone through, why one stands still, and where."""
    web = web_of(text)
    need_answers(answers, bound)
    leaving = [rows_leaving(web, part) for part in range(len(web[0]))]
    stack = [at_begin(FIRST_PART)]
    rows = []
    used = 0
    while stack:
        if len(rows) == bound:
            return (rows, BOUND, stack)
        # At each place of a program's web one row begins, or the yes and the no of one question.
        found = leaving[stack[-1][0]][stack[-1][1]]
        chosen = found[0]
        if len(found) > 1:
            if used == len(answers):
                return (rows, WANTING, stack)
            chosen = found[YES - answers[used]]
            used += 1
        rows.append(chosen)
        go(stack, web[1][chosen])
    return (rows, ENDED, stack)


def need_answers(answers, bound):
    if not isinstance(answers, list) or not are_whole(answers) or not all([0 <= answer <= 1 for answer in answers]):
        raise NoAnswer("answers that are not 0 or 1")
    if not is_whole(bound) or bound < 0:
        raise NoAnswer("a bound below 0")
