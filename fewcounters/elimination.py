"""What the finding of plans needs beside: relations solved for counts, and what goes through each row."""

from fewcounters.heaps import count_of_counts
from fewcounters.webs import BEGIN, END, FIRST_PART, NO_CALL


def solved(known, order):
    """The known relations, solved for as many of the counts in order as can be, those that stand ahead first.

    Told is a tuple (lines, left). lines is a dict by each count solved for: a list with a number above 0 there,
    with 0 at each other count solved for, and behind its numbers for the counts the multipliers by which the
    relations sum to them. left are the counts in order that were not solved for: they may have any numbers.
    """
    lines = {}
    left = []
    unused = [list(relation) + unit(place, len(known)) for place, relation in enumerate(known)]
    for count in order:
        fit = [place for place, held in enumerate(unused) if held[count] != 0]
        if fit:
            line = above_zero(unused.pop(fit[0]), count)
            unused = [without(other, line, count) for other in unused]
            for earlier in list(lines):
                lines[earlier] = without(lines[earlier], line, count)
            lines[count] = line
        else:
            left.append(count)
    return (lines, left)


def unit(place, size):
    """A list of noughts, so many as size, but for a 1 at the place."""
    return [1 if k == place else 0 for k in range(size)]


def above_zero(line, count):
    return line if line[count] > 0 else [-number for number in line]


def without(other, line, count):
    """The other line with so much of line taken from it that 0 is left at the count, where line is above 0."""
    if other[count] == 0:
        return other
    return shrunk([line[count] * number - other[count] * taken for number, taken in zip(other, line)])


def shrunk(numbers):
    """The numbers without what divides them all, for else they grow with each line."""
    shared = 0
    for number in numbers:
        shared = common(shared, number)
    return [number // shared for number in numbers] if shared > 1 else numbers


def common(one, other):
    """The greatest number that divides both, from 0 on."""
    while other != 0:
        rest = one % other
        one = other
        other = rest
    return abs(one)


def moved_by(lines, count, size):
    """Even numbers, so many as size: above 0 at a count that is left, 0 at all others not solved for.

    Each count solved for follows, by its line; the number at the count is the least by which all are whole.
    """
    step = 1
    for known in lines:
        whole = lines[known][known]
        needed = whole // common(whole, lines[known][count])
        step = step * needed // common(step, needed)
    numbers = [0] * size
    numbers[count] = step
    for known in lines:
        numbers[known] = -lines[known][count] * step // lines[known][known]
    return numbers


def runs_through(web):
    """A dict by each row of the counts of a short run that goes through it."""
    return goings_through(web, False)


def rounds_through(web):
    """As runs_through, but for the counts of a round by which a run can be longer where that is less."""
    return goings_through(web, True)


def goings_through(web, with_rounds):
    inner = counts_within(web)
    through = {}
    for part in range(len(web[0])):
        # All rows that call a part are of lesser parts, so what goes through them is there already.
        around = counts_around(web, part, inner, through)
        leads = leads_of(web, part, inner)
        ahead = cheapest(leads, BEGIN, len(around))
        behind = cheapest(turned(leads), END, len(around))
        for number, row in enumerate(web[1]):
            if row[0] == part:
                own = row_counts(web, number, inner)
                beside = [added(added(around, ahead[row[1]], 1), behind[row[2]], 1)]
                if with_rounds:
                    beside.extend(ways_back(leads, row, len(around)))
                through[number] = added(own, min(beside, key=sum), 1)
    return through


def ways_back(leads, row, size):
    """A list of the counts of the cheapest way from where a row leads back to where it began, if there is one."""
    found = cheapest(leads, row[2], size)
    return [found[row[1]]] if row[1] in found else []


def counts_within(web):
    """A dict by each part of the counts of one short going through it, its begin not counted."""
    inner = {}
    # Calls go to greater parts alone, so those come first.
    for part in range(len(web[0]) - 1, FIRST_PART - 1, -1):
        inner[part] = cheapest(leads_of(web, part, inner), BEGIN, count_of_counts(web))[END]
    return inner


def counts_around(web, part, inner, through):
    """The counts of what is short and goes through the part once more than is counted, that begin counted."""
    if part == FIRST_PART:
        return unit(len(web[1]) + part, count_of_counts(web))
    calling = [through[number] for number, row in enumerate(web[1]) if row[3] == part]
    return added(min(calling, key=sum), inner[part], -1)


def leads_of(web, part, inner):
    """Tuples (from, to, counts) of the part's rows."""
    return [(row[1], row[2], row_counts(web, k, inner)) for k, row in enumerate(web[1]) if row[0] == part]


def turned(leads):
    return [(lead[1], lead[0], lead[2]) for lead in leads]


def row_counts(web, number, inner):
    """What is counted where a row is gone through: the row, and all of the part that it calls."""
    own = unit(number, count_of_counts(web))
    called = web[1][number][3]
    if called == NO_CALL:
        return own
    own[len(web[1]) + called] += 1
    return added(own, inner[called], 1)


def cheapest(leads, start, size):
    """A dict by each place to which leads bring one from start of the counts, so many as size, of least sum."""
    found = {start: [0] * size}
    waiting = [start]
    while waiting:
        place = waiting.pop(0)
        for lead in leads:
            if lead[0] == place:
                numbers = added(found[place], lead[2], 1)
                if lead[1] not in found or sum(numbers) < sum(found[lead[1]]):
                    found[lead[1]] = numbers
                    waiting.append(lead[1])
    return found


def added(numbers, others, times):
    """The numbers and so many times the others, one by one."""
    return [number + times * other for number, other in zip(numbers, others)]
