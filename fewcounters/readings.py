"""Reading back: the counts of all rows and parts from the marks of the chosen rows, and where runs stopped."""

from fewcounters.errors import NoMarks
from fewcounters.heaps import count_of_counts, relation_sum
from fewcounters.judge import is_list_of
from fewcounters.webs import END, FIRST_PART, need_web


def stopped(web, stops):
    """For each relation what its sum is over the counts of runs that broke off at these stops."""
    need_web(web)
    told = []
    for part, size in enumerate(web[0]):
        told.extend([stopped_at(stops, part, place) for place in range(size)])
    calls = len(web[0]) - FIRST_PART - 1
    return told + [0] * calls


def stopped_at(stops, part, place):
    if place != END:
        return stops.count((part, place))
    # A part that stopped at its END came there as often as it began; the others began and came not so far.
    return -len([stop for stop in stops if stop[0] == part and stop[1] != END])


def read_back(web, plan, marks, stops):
    """The counts that follow, by the plan's readings, from the chosen rows' marks and the stops."""
    return read_from(web, plan, marks, stopped(web, stops))


def read_from(web, plan, marks, at_stops):
    """As read_back, from what stopped tells of the stops, for a web that was looked at already."""
    choice = plan[0]
    if not is_list_of(marks, len(choice)) or not all([mark >= 0 for mark in marks]):
        raise NoMarks("no list of a number from 0 on for each chosen row")
    told = [0] * count_of_counts(web)
    for number, mark in zip(choice, marks):
        told[number] = mark
    unread = [count for count in range(len(told)) if count not in choice]
    for count, reading in zip(unread, plan[1]):
        told[count] = count_read(reading, marks, at_stops)
    return told


def count_read(reading, marks, at_stops):
    """The count by its reading (whole, times, multipliers)."""
    total = relation_sum(reading[1], marks) + relation_sum(reading[2], at_stops)
    if total < 0 or total % reading[0] != 0:
        raise NoMarks("no count comes back from these marks")
    return total // reading[0]
