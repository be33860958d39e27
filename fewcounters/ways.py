"""Ways and their numbers: of a part that is loose each way from its begin to its end has a number of its own."""

from fewcounters.errors import NoLoose, NoWay
from fewcounters.webs import BEGIN, END, can_go, is_part, is_whole, need_web, reached, rows_leaving


def is_loose(web, part):
    """Whether no way of one row or more of the part leads from a place back to it."""
    need_part(web, part)
    leads = [(row[1], row[2]) for row in web[1] if row[0] == part]
    return not any([lead[0] in reached(leads, lead[1]) for lead in leads])


def need_part(web, part):
    need_web(web)
    if not is_part(web, part):
        raise NoWay("no part of the web")


def need_loose(web, part):
    if not is_loose(web, part):
        raise NoLoose("a part that leads back to one of its places")


def ways(web, part):
    """How many ways lead through the loose part."""
    need_loose(web, part)
    return ways_on(web, part)[BEGIN]


def ways_on(web, part):
    """A dict by each place of the loose part of how many ways lead from it to the end."""
    leaving = rows_leaving(web, part)
    known = {END: 1}
    # In a loose part some place is always left that leads to known places alone.
    while len(known) < len(leaving):
        for place, numbers in enumerate(leaving):
            following = [web[1][number][2] for number in numbers]
            if place not in known and all([to in known for to in following]):
                known[place] = sum([known[to] for to in following])
    return known


def worths(web, part):
    """For each row how many ways lead to the end by those rows ahead of it that lead from the same place."""
    need_loose(web, part)
    return worths_in(web, part)


def worths_in(web, part):
    """As worths, for a part that is known to be loose; a stretch web has more rows than a web may have, at times."""
    known = ways_on(web, part)
    told = [0] * len(web[1])
    for numbers in rows_leaving(web, part):
        total = 0
        for number in numbers:
            told[number] = total
            total += known[web[1][number][2]]
    return told


def steps(web, part):
    """For each row a number whose sums over the ways are the ways' numbers, 0 for as many rows as is told.

    The worths are such already: at each place but the end the first row that leads from it is worth 0, so those
    worth more are no more than the part's rows less its places, and one.
    """
    return worths(web, part)


def number_of(web, part, way):
    """The way's number: the sum of its rows' worths."""
    known = worths(web, part)
    if not leads_through(web, part, way):
        raise NoWay("no way through the part")
    return sum([known[number] for number in way])


def leads_through(web, part, rows):
    """Whether rows is a list of rows of the part, each leading on where the one ahead led to, from begin to end."""
    if not isinstance(rows, list):
        return False
    place = BEGIN
    for number in rows:
        if not can_go(web, [(part, place)], number):
            return False
        place = web[1][number][2]
    return place == END


def way_of(web, part, number):
    """The way that has the number."""
    need_loose(web, part)
    return ways_of(web, part, [number])[0]


def ways_of(web, part, numbers):
    """For each of the numbers the way that has it; as worths_in, for a part that is known to be loose."""
    known = worths_in(web, part)
    count = ways_on(web, part)[BEGIN]
    if not all([is_whole(number) and 0 <= number < count for number in numbers]):
        raise NoWay("no way's number")
    leaving = rows_leaving(web, part)
    return [way_by(web, known, leaving, number) for number in numbers]


def way_by(web, known, leaving, number):
    """The way that has the number, by the known worths and the rows leaving each place."""
    way = []
    place = BEGIN
    left = number
    while place != END:
        # Worths rise from row to row at a place, and what is left is less than the ways that lead from there.
        row = max([choice for choice in leaving[place] if known[choice] <= left])
        left -= known[row]
        way.append(row)
        place = web[1][row][2]
    return way
