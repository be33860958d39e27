"""Stretches: what a part's own run falls into at its cuts, and the counts of rows from the stretches' numbers."""

from fewcounters.errors import NoRun
from fewcounters.ways import leads_through, need_part, ways_of, worths_in
from fewcounters.webs import BEGIN, END, FIRST_PART, NO_CALL, rows_leaving


def cuts(web, part):
    """The part's rows that lead back on the way on which one stands, when one goes through all of it, rising."""
    need_part(web, part)
    left = rows_leaving(web, part)
    way = [BEGIN]
    found = []
    while way:
        if not left[way[-1]]:
            way.pop()
            continue
        number = left[way[-1]].pop(0)
        to = web[1][number][2]
        if to in way:
            found.append(number)
        else:
            # At a place that was left for good no row is left: one comes straight back, as if one had only looked.
            way.append(to)
    return sorted(found)


def stretch_web(web, part):
    """The web of one part whose ways are the stretches of the part's own runs."""
    rows = [(FIRST_PART, start, to, NO_CALL) for start, to, number, goes in laid_out(web, part)]
    return ([web[0][part]], rows)


def laid_out(web, part):
    """The rows of the stretch web as tuples (from, to, number, goes).

    number is the row of the web to which one belongs. goes is whether the row is gone through by it: a stretch
    goes through the cut ahead of which it stands, and not through the one behind which it comes.
    """
    found = cuts(web, part)
    kept = [number for number, row in enumerate(web[1]) if row[0] == part and number not in found]
    told = [(web[1][number][1], web[1][number][2], number, True) for number in kept]
    for number in found:
        if web[1][number][2] != BEGIN:
            told.append((BEGIN, web[1][number][2], number, False))
        told.append((web[1][number][1], END, number, True))
    return told


def stretches(web, part, rows):
    """The numbers of the stretches of the part's own run, in order."""
    need_part(web, part)
    if not leads_through(web, part, rows):
        raise NoRun("no own run of the part")
    known = worths_in(stretch_web(web, part), FIRST_PART)
    return [sum([known[place] for place in way]) for way in fallen(web, part, rows)]


def fallen(web, part, rows):
    """The stretches of the part's own run, in order, as ways of the stretch web."""
    going = {}
    coming = {}
    for place, row in enumerate(laid_out(web, part)):
        if row[3]:
            going[row[2]] = place
        else:
            coming[row[2]] = place
    found = cuts(web, part)
    told = [[]]
    for number in rows:
        told[-1].append(going[number])
        if number in found:
            told.append([coming[number]] if number in coming else [])
    return told


def counts_by(web, part, numbers):
    """For each row how often it stands in own runs of the part whose stretches have these numbers."""
    layout = laid_out(web, part)
    told = [0] * len(web[1])
    for way in ways_of(stretch_web(web, part), FIRST_PART, numbers):
        for place in way:
            if layout[place][3]:
                told[layout[place][2]] += 1
    return told
