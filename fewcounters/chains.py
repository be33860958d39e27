"""Chains of calls: each chain of rows by which a part is come to has a number of its own among those to the part."""

from fewcounters.errors import NoChain
from fewcounters.webs import FIRST_PART, NO_CALL, is_part, is_row, is_whole, need_web


def chains(web):
    """For each part how many chains lead to it."""
    need_web(web)
    told = [1]
    # Calls go to greater parts alone, so what leads to the callers is known.
    for part in range(FIRST_PART + 1, len(web[0])):
        told.append(sum([told[row[0]] for row in web[1] if row[3] == part]))
    return told


def offsets(web):
    """For each row that calls how many chains lead to its called part by rows ahead of it, and 0 for the others."""
    leading = chains(web)
    ahead = [0] * len(leading)
    told = []
    for row in web[1]:
        if row[3] == NO_CALL:
            told.append(0)
        else:
            told.append(ahead[row[3]])
            ahead[row[3]] += leading[row[0]]
    return told


def chain_number(web, chain):
    """The chain's number: the sum of its rows' offsets."""
    known = offsets(web)
    if not is_chain(web, chain):
        raise NoChain("no chain")
    return sum([known[number] for number in chain])


def is_chain(web, chain):
    """Whether chain is a list of rows that call, the first of part 0, each of the part that the one ahead calls."""
    if not isinstance(chain, list):
        return False
    part = FIRST_PART
    for number in chain:
        if not is_row(web, number) or web[1][number][0] != part:
            return False
        part = web[1][number][3]
    return part != NO_CALL


def chain_of(web, part, number):
    """The chain to the part that has the number."""
    known = offsets(web)
    if not is_part(web, part) or not is_whole(number) or not 0 <= number < chains(web)[part]:
        raise NoChain("no chain to the part has the number")
    backwards = []
    here = part
    left = number
    while here != FIRST_PART:
        # Offsets rise from one row that calls the part to the next.
        calling = [row for row, lead in enumerate(web[1]) if lead[3] == here and known[row] <= left][-1]
        backwards.append(calling)
        left -= known[calling]
        here = web[1][calling][0]
    return list(reversed(backwards))
