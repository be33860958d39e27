"""The judge: whether a plan is right. It knows nothing of how plans are found."""

from fewcounters.heaps import count_of_counts, is_heap_of, relations, tally_of
from fewcounters.webs import are_whole, is_whole, need_web

CHOICE = "choice"
READING = "reading"
PAIR = "pair"
GUESS = "guess"
NO_ROW = -1


def judged(web, plan):
    """None where the plan is right, else a tuple that tells the first thing in it that is not."""
    need_web(web)
    if not isinstance(plan, tuple) or len(plan) != 4 or not is_choice(web, plan[0]):
        return (CHOICE,)
    wrong = wrong_reading(web, plan[0], plan[1])
    if wrong is None:
        wrong = wrong_pair(web, plan[0], plan[2])
    if wrong is None:
        wrong = wrong_guess(web, plan[0], plan[2], plan[3])
    return wrong


def is_choice(web, choice):
    """Whether choice is a list of rows' numbers, rising, each once."""
    if not isinstance(choice, list) or not are_whole(choice):
        return False
    if not all([0 <= number < len(web[1]) for number in choice]):
        return False
    return all([number < later for number, later in zip(choice, choice[1:])])


def are_guesses(web, guesses):
    """Whether guesses is a list of a whole number from 0 on for each row."""
    return is_list_of(guesses, len(web[1])) and min(guesses) >= 0


def is_list_of(numbers, size):
    """Whether numbers is a list of so many whole numbers."""
    return isinstance(numbers, list) and len(numbers) == size and are_whole(numbers)


def wrong_reading(web, choice, readings):
    told = readings if isinstance(readings, list) else []
    wanted = [count for count in range(count_of_counts(web)) if count not in choice]
    known = relations(web)
    for place, count in enumerate(wanted):
        if place >= len(told) or not is_right_reading(known, choice, count, told[place]):
            return (READING, count)
    return (READING, count_of_counts(web)) if len(told) > len(wanted) else None


def is_right_reading(known, choice, count, reading):
    """Whether the known relations, by the reading's multipliers, sum to what it tells of the count."""
    if not has_reading_form(known, choice, reading):
        return False
    wanted = [0] * len(known[0])
    wanted[count] = reading[0]
    for number, factor in zip(choice, reading[1]):
        wanted[number] = -factor
    return [column_sum(known, place, reading[2]) for place in range(len(wanted))] == wanted


def column_sum(known, place, multipliers):
    return sum([factor * relation[place] for factor, relation in zip(multipliers, known)])


def has_reading_form(known, choice, reading):
    if not isinstance(reading, tuple) or len(reading) != 3:
        return False
    if not is_whole(reading[0]) or reading[0] < 1:
        return False
    return is_list_of(reading[1], len(choice)) and is_list_of(reading[2], len(known))


def wrong_pair(web, choice, pairs):
    told = pairs if isinstance(pairs, list) else []
    for place, number in enumerate(choice):
        if place >= len(told) or not is_right_pair(web, choice, number, told[place]):
            return (PAIR, number)
    return (PAIR, NO_ROW) if len(told) > len(choice) else None


def is_right_pair(web, choice, number, pair):
    """Whether pair is two heaps whose counts are, of all chosen rows, unlike at the row of that number alone."""
    if not isinstance(pair, tuple) or len(pair) != 2:
        return False
    if not is_heap_of(web, pair[0]) or not is_heap_of(web, pair[1]):
        return False
    return [row for row in unlike_rows(web, pair) if row in choice] == [number]


def unlike_rows(web, pair):
    """The rows at which the counts of a pair's two heaps are unlike."""
    one = tally_of(web, pair[0])
    other = tally_of(web, pair[1])
    return [row for row in range(len(web[1])) if one[row] != other[row]]


def wrong_guess(web, choice, pairs, guesses):
    if guesses is None:
        return None
    if not are_guesses(web, guesses):
        return (GUESS, NO_ROW, NO_ROW)
    for number, pair in zip(choice, pairs):
        for row in unlike_rows(web, pair):
            if guesses[row] < guesses[number]:
                return (GUESS, number, row)
    return None
