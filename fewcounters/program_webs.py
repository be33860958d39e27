"""Webs of programs: a program's rows with their names, and its web."""

from fewcounters.programs import need_program
from fewcounters.spots import part_at, places_in
from fewcounters.webs import NO_CALL


def names_of(text):
    """For each row a tuple (word, name), its word one of do, call, yes and no."""
    return [(row[2], row[3]) for row in need_program(text).rows]


def web_of(text):
    """The program's web."""
    spots = need_program(text)
    names = [part[0] for part in spots.parts]
    places = [places_in(spots, part) for part in range(len(names))]
    rows = []
    for row in spots.rows:
        part = part_at(spots, row[0])
        calls = names.index(row[3]) if row[2] == "call" else NO_CALL
        rows.append((part, places[part][row[0]], places[part][row[1]], calls))
    return ([len(known) for known in places], rows)
