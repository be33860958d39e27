"""Heaps and counts: how often the runs of a heap go through each row and begin each part."""

from fewcounters.errors import NoCounts, NoRun
from fewcounters.webs import BEGIN, END, FIRST_PART, NO_CALL, are_whole, is_run_of, need_web, reached, rows_leaving


def counts(web, heap):
    """For each row how often it stands in the heap's runs, then for each part how often it began."""
    need_web(web)
    if not is_heap_of(web, heap):
        raise NoRun("no heap of runs")
    return tally_of(web, heap)


def tally_of(web, heap):
    """As counts, for a heap that was looked at already."""
    rows = web[1]
    tally = [0] * count_of_counts(web)
    for run in heap:
        tally[len(rows) + FIRST_PART] += 1
        for number in run:
            tally[number] += 1
            if rows[number][3] != NO_CALL:
                tally[len(rows) + rows[number][3]] += 1
    return tally


def is_heap_of(web, heap):
    return isinstance(heap, list) and all([is_run_of(web, run) for run in heap])


def count_of_counts(web):
    return len(web[1]) + len(web[0])


def relations(web):
    """The lists of numbers whose sums, times the counts of any heap, are 0."""
    need_web(web)
    told = []
    for part, size in enumerate(web[0]):
        for place in range(size):
            told.append(place_relation(web, part, place))
    for part in range(FIRST_PART + 1, len(web[0])):
        told.append(call_relation(web, part))
    return told


def place_relation(web, part, place):
    """What comes to a place goes from it; the part's begins come to place 0, its ends go from place 1."""
    of_rows = [row_at(row, part, place) for row in web[1]]
    of_parts = [0] * len(web[0])
    if place == BEGIN:
        of_parts[part] = 1
    elif place == END:
        of_parts[part] = -1
    return of_rows + of_parts


def row_at(row, part, place):
    if row[0] != part or row[1] == row[2]:
        return 0
    if row[2] == place:
        return 1
    return -1 if row[1] == place else 0


def call_relation(web, part):
    """A part begins as often as it is called."""
    of_rows = [1 if row[3] == part else 0 for row in web[1]]
    of_parts = [0] * len(web[0])
    of_parts[part] = -1
    return of_rows + of_parts


def are_counts(web, numbers):
    """Whether a list of whole numbers is the counts of a heap."""
    need_web(web)
    if not isinstance(numbers, list) or len(numbers) != count_of_counts(web):
        return False
    if not are_whole(numbers) or min(numbers) < 0 or not are_even(web, numbers):
        return False
    return rows_apart(web, numbers) == []


def are_even(web, numbers):
    return all([relation_sum(relation, numbers) == 0 for relation in relations(web)])


def relation_sum(relation, numbers):
    return sum([factor * number for factor, number in zip(relation, numbers)])


def rows_apart(web, numbers):
    """The rows with a number above 0 that can't be come to by such rows of their part, or whose part has none."""
    apart = []
    for part in range(len(web[0])):
        gone = [k for k, row in enumerate(web[1]) if row[0] == part and numbers[k] > 0]
        found = reached([(web[1][k][1], web[1][k][2]) for k in gone], BEGIN)
        begun = numbers[len(web[1]) + part] > 0
        apart.extend([k for k in gone if not begun or web[1][k][1] not in found])
    return apart


def heap_of(web, numbers):
    """A heap that has these counts."""
    if not are_counts(web, numbers):
        raise NoCounts("the counts of no heap")
    waiting = [own_runs(web, numbers, part) for part in range(len(web[0]))]
    heap = []
    while waiting[FIRST_PART]:
        heap.append(whole_run(web, waiting, FIRST_PART))
    return heap


def whole_run(web, waiting, part):
    """One of the part's waiting own runs, taken away, with one of the called part's behind each row that calls.

    Each part has just as many own runs as it is called, and calls go to greater parts alone.
    """
    own = waiting[part].pop()
    run = []
    for number in own:
        run.append(number)
        called = web[1][number][3]
        if called != NO_CALL:
            run.extend(whole_run(web, waiting, called))
    return run


def own_runs(web, numbers, part):
    """Lists of the part's rows from its begin to its end, that together go through each as often as told."""
    runs = []
    for number in round_from_end(web, numbers, part):
        if number < len(web[1]):
            runs[-1].append(number)
        else:
            runs.append([])
    return runs


def round_from_end(web, numbers, part):
    """A way from the part's END round to END that goes as often as told by each of its rows and by its begin.

    The part's place in the counts stands for going from END to BEGIN; nothing else leads from END, so one
    begin stands ahead of each own run. One goes as long as one can; where one is stuck, the row by which one
    came is the last one of the way that is not yet told, and what is left to go ahead of it is gone next.
    """
    left = list(numbers)
    leaving = numbers_leaving(web, part)
    backwards = []
    way = []
    place = END
    while way or has_left(leaving[place], left):
        if has_left(leaving[place], left):
            number = leaving[place][-1]
            left[number] -= 1
            way.append((place, number))
            place = web[1][number][2] if number < len(web[1]) else BEGIN
        else:
            came = way.pop()
            backwards.append(came[1])
            place = came[0]
    return list(reversed(backwards))


def numbers_leaving(web, part):
    """For each of the part's places the rows that lead from it, and at END the part's begin."""
    leaving = rows_leaving(web, part)
    leaving[END].append(len(web[1]) + part)
    return leaving


def has_left(choices, left):
    """Whether one of the choices is left; those that are not are taken from their end, so that it stands last."""
    while choices and left[choices[-1]] == 0:
        choices.pop()
    return len(choices) > 0
