"""The finder: plans with the fewest and cheapest counters, and of choices that are not enough the twins."""

from fewcounters.elimination import added, moved_by, rounds_through, runs_through, solved
from fewcounters.errors import NoChoice, NoGuess
from fewcounters.heaps import count_of_counts, heap_of, relations, rows_apart
from fewcounters.judge import are_guesses, is_choice
from fewcounters.webs import need_web


def plan_for(web, guesses):
    """A plan with these guesses, a list or None, that the judge lets by."""
    need_web(web)
    if guesses is not None:
        need_guesses(web, guesses)
    found = solved(relations(web), part_counts(web) + dearest_first(web, guesses))
    lines = found[0]
    choice = sorted(found[1])
    readings = [reading_of(web, lines[count], count, choice) for count in sorted(lines)]
    moves = [moved_by(lines, number, count_of_counts(web)) for number in choice]
    return (choice, readings, heaps_apart(web, moves), None if guesses is None else list(guesses))


def need_guesses(web, guesses):
    if not are_guesses(web, guesses):
        raise NoGuess("no list of a whole number from 0 on for each row")


def part_counts(web):
    """The parts' places among the counts: they are solved for ahead of the rows, for none of them is chosen."""
    return list(range(len(web[1]), count_of_counts(web)))


def dearest_first(web, guesses):
    """The rows, those with great guesses ahead.

    What is solved for needs no counter. So a row is chosen only where it follows from rows that are no cheaper:
    by the exchange of one row for another nothing is left to be saved.
    """
    rows = list(range(len(web[1])))
    if guesses is None:
        return rows
    return sorted(rows, key=lambda number: guesses[number], reverse=True)


def reading_of(web, line, count, choice):
    """How the count is read from the chosen rows, by the line that is solved for it."""
    return (line[count], [-line[number] for number in choice], line[count_of_counts(web):])


def heaps_apart(web, moves):
    """For each of the moves, lists of even numbers, two heaps, as a tuple: the one's counts less the other's are it."""
    runs = runs_through(web)
    rounds = rounds_through(web)
    told = []
    for numbers in moves:
        base = base_for(web, runs, rounds, numbers)
        told.append((heap_of(web, added(base, numbers, 1)), heap_of(web, base)))
    return told


def base_for(web, runs, rounds, numbers):
    """The counts of a heap, such that with the numbers added they are counts of a heap, too.

    Rounds bring each row to 0 or above; runs bring one to all rows that can't be come to. What is added is nowhere
    below 0, so what holds of a row holds on.
    """
    base = [0] * len(numbers)
    for number in range(len(web[1])):
        lacking = -base[number] - numbers[number]
        if lacking > 0:
            gone = rounds[number][number]
            base = added(base, rounds[number], (lacking + gone - 1) // gone)
    apart = rows_apart(web, base) + rows_apart(web, added(base, numbers, 1))
    while apart:
        base = added(base, runs[apart[0]], 1)
        apart = rows_apart(web, base) + rows_apart(web, added(base, numbers, 1))
    return base


def cost(web, choice, guesses):
    """What the choice costs: the sum of its rows' guesses."""
    need_web(web)
    need_choice(web, choice)
    need_guesses(web, guesses)
    return sum([guesses[number] for number in choice])


def need_choice(web, choice):
    if not is_choice(web, choice):
        raise NoChoice("no list of rows' numbers, rising, each once")


def is_enough(web, choice):
    """Whether no two heaps with unlike counts are alike at all rows of the choice."""
    need_web(web)
    need_choice(web, choice)
    return solved_without(web, choice)[1] == []


def twins(web, choice):
    """Two heaps, as a tuple, that are alike at all rows of the choice and unlike at another; None if it is enough."""
    need_web(web)
    need_choice(web, choice)
    found = solved_without(web, choice)
    if not found[1]:
        return None
    return heaps_apart(web, [moved_by(found[0], found[1][0], count_of_counts(web))])[0]


def solved_without(web, choice):
    """The relations solved for all but the choice: what is left there moves while the choice stays at 0."""
    others = [number for number in range(len(web[1])) if number not in choice]
    return solved(relations(web), part_counts(web) + others)
