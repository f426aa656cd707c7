"""The outside judged: what stands committed there, held against the plain meaning of as much of the input.

The interface calls an input "input"; here it is "fed", as that word is no name in this subset of Python.
"""

from oncestream.bags import taken, unlike
from oncestream.meaning import cut, is_further, meaning, places_of, whole
from oncestream.values import is_bare_row, is_from, is_number


def judge_outside(query, fed, places, bag):
    """None if the bag is what the query gives for the input up to these places, else the first fault."""
    found = unlike(bag, meaning(query, cut(fed, places)))
    return None if found is None else ("row",) + found


def _is_places(fed, value):
    """Whether anything is places of the input."""
    ends = places_of(fed)
    if not isinstance(value, dict) or len(value) != len(ends):
        return False
    # True and False, which are equal to 1 and 0, are no numbers of parts.
    return all(part in ends and is_from(part[1], 0) and is_number(value[part], 0, ends[part]) for part in value)


def _is_bag(value):
    """Whether anything is a bag of rows of some columns or other."""
    return isinstance(value, dict) and all(is_bare_row(row) and is_from(value[row], 1) for row in value)


def _is_moment(fed, value):
    """Whether anything is a pair of places of the input and a bag."""
    return isinstance(value, tuple) and len(value) == 2 and _is_places(fed, value[0]) and _is_bag(value[1])


def judge_history(query, fed, value):
    """None if anything is a list of moments that tell what is due, ever further on, else the first fault."""
    if not isinstance(value, (list, tuple)):
        return ("form",)
    ahead = {part: 0 for part in places_of(fed)}
    for number, moment in enumerate(value):
        if not _is_moment(fed, moment):
            return ("form", number)
        places, bag = moment
        if not is_further(ahead, places):
            return ("back", number)
        fault = judge_outside(query, fed, places, bag)
        if fault is not None:
            return ("row", number) + fault[1:]
        ahead = places
    return None


def due_still(query, fed, bag):
    """The bag of what the query gives for the whole input, without what stands in this bag."""
    return taken(whole(query, fed), bag)


def came(history):
    """The bags of what came from each moment to the next one, the first moment's own bag ahead."""
    bags = [bag for _, bag in history]
    return [taken(bag, other) for bag, other in zip(bags, [{}] + bags)]
