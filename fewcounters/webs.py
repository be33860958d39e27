"""Webs and runs: what a web is, what a run of it is, and where a run stands."""

from fewcounters.errors import NoRun, NoWeb

MOST_PARTS = 4
LEAST_PLACES = 2
MOST_PLACES = 16
MOST_ROWS = 60

FIRST_PART = 0
BEGIN = 0
END = 1
NO_CALL = -1


def is_whole(value):
    """Whether value is a whole number; truths are ints to Python, but none here."""
    return isinstance(value, int) and not isinstance(value, bool)


def are_whole(values):
    return all([is_whole(value) for value in values])


def is_web(web):
    """Whether a tuple (places, rows) is a web."""
    if not has_web_form(web) or not has_web_sizes(web):
        return False
    places = web[0]
    rows = web[1]
    if not all([leads_within(places, row) for row in rows]):
        return False
    if not all([is_called(rows, part) for part in range(FIRST_PART + 1, len(places))]):
        return False
    return all([lies_on_ways(rows, part, size) for part, size in enumerate(places)])


def has_web_form(web):
    if not isinstance(web, tuple) or len(web) != 2:
        return False
    places = web[0]
    rows = web[1]
    if not isinstance(places, list) or not isinstance(rows, list):
        return False
    return are_whole(places) and all([has_row_form(row) for row in rows])


def has_row_form(row):
    return isinstance(row, tuple) and len(row) == 4 and are_whole(row)


def has_web_sizes(web):
    places = web[0]
    rows = web[1]
    if not 1 <= len(places) <= MOST_PARTS or not 1 <= len(rows) <= MOST_ROWS:
        return False
    return all([LEAST_PLACES <= size <= MOST_PLACES for size in places])


def leads_within(places, row):
    """Whether a row's part, places and call are there, and it doesn't lead on from an end."""
    part = row[0]
    if not 0 <= part < len(places):
        return False
    if not 0 <= row[1] < places[part] or not 0 <= row[2] < places[part]:
        return False
    return row[1] != END and (row[3] == NO_CALL or part < row[3] < len(places))


def is_called(rows, part):
    return any([row[3] == part for row in rows])


def lies_on_ways(rows, part, size):
    """Whether each of the part's places, so many as size, lies on a way from its begin to its end."""
    ahead = reached([(row[1], row[2]) for row in rows if row[0] == part], BEGIN)
    behind = reached([(row[2], row[1]) for row in rows if row[0] == part], END)
    return len(ahead) == size and len(behind) == size


def reached(leads, start):
    """A dict of True by each place to which leads, tuples (from, to), bring one from start; start too."""
    found = {start: True}
    waiting = [start]
    while waiting:
        place = waiting.pop()
        for lead in leads:
            if lead[0] == place and lead[1] not in found:
                found[lead[1]] = True
                waiting.append(lead[1])
    return found


def need_web(web):
    if not is_web(web):
        raise NoWeb("no web")


def is_part(web, part):
    return is_whole(part) and 0 <= part < len(web[0])


def is_row(web, number):
    # Python counts numbers below 0 from a list's end, so they are turned away ahead of any index.
    return is_whole(number) and 0 <= number < len(web[1])


def rows_leaving(web, part):
    """For each of the part's places the numbers of the rows that lead from it, rising."""
    leaving = [[] for place in range(web[0][part])]
    for number, row in enumerate(web[1]):
        if row[0] == part:
            leaving[row[1]].append(number)
    return leaving


def is_run(web, rows):
    """Whether a list of rows' numbers is a run of the web."""
    need_web(web)
    return is_run_of(web, rows)


def is_run_of(web, rows):
    """As is_run, for a web that was looked at already: a heap asks this once for each of its runs."""
    return stack_behind(web, rows) == []


def stood(web, rows):
    """The stack behind rows, with which some run begins: tuples (part, place), part 0 first."""
    need_web(web)
    stack = stack_behind(web, rows)
    if stack is None:
        raise NoRun("no run begins with these rows")
    return stack


def stack_behind(web, rows):
    """The stack behind rows, or None where no run begins with them.

    To each beginning that can be gone here there is a run, for from each place of a web a way leads to the end.
    """
    if not isinstance(rows, list):
        return None
    stack = [at_begin(FIRST_PART)]
    for number in rows:
        if not can_go(web, stack, number):
            return None
        go(stack, web[1][number])
    return stack


def at_begin(part):
    return (part, BEGIN)


def can_go(web, stack, number):
    if not stack or not is_row(web, number):
        return False
    row = web[1][number]
    return (row[0], row[1]) == stack[-1]


def go(stack, row):
    """Change the stack to the one behind the row."""
    stack[-1] = (row[0], row[2])
    if row[3] != NO_CALL:
        stack.append(at_begin(row[3]))
    # A caller may have been led to its end by the row that called: it ends with the part it called.
    while stack and stack[-1][1] == END:
        stack.pop()
