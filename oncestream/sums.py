"""Sums that can be taken back: tallies of what comes with signs, lots of several of them, papers of what they tell."""

from oncestream.tables import is_rising, is_table, with_more
from oncestream.values import is_from, is_value, rank

HOWS = ("count", "sum", "least", "greatest")


def is_how(value):
    """Whether anything is a word for a way to sum up."""
    return value in HOWS


def _is_integer(value):
    """Whether anything is an integer; True and False are none."""
    return isinstance(value, int) and not isinstance(value, bool)


def _is_given(value):
    """Whether anything is a value that a tally of the least and greatest counts."""
    return is_value(value) and value is not None


def is_tally(how, value):
    """Whether anything is a tally of this how."""
    if how in ("count", "sum"):
        return _is_integer(value)
    return is_table(value, _is_given, lambda n: _is_integer(n) and n != 0, rank)


def empty(how):
    """The tally into which nothing has come."""
    return 0 if how in ("count", "sum") else ()


def add(how, tally, given, sign):
    """The tally behind one more given."""
    if how == "count":
        return tally + sign
    if given is None:
        return tally
    return tally + sign * given if how == "sum" else with_more(tally, given, sign, rank)


def add_all(how, tally, pairs):
    """The tally behind a list of (given, sign)."""
    for given, sign in pairs:
        tally = add(how, tally, given, sign)
    return tally


def both(how, one, other):
    """The tally of all that has come into two."""
    if how in ("count", "sum"):
        return one + other
    for given, n in other:
        one = with_more(one, given, n, rank)
    return one


def less(how, one, other):
    """The tally that makes the first one together with the second one."""
    if how in ("count", "sum"):
        return one - other
    return both(how, one, tuple([(given, -n) for given, n in other]))


def tell(how, tally):
    """What a tally tells."""
    if how in ("count", "sum"):
        return tally
    there = [given for given, n in tally if n > 0]
    if len(there) == 0:
        return None
    return there[0] if how == "least" else there[-1]


def is_lot(hows, value):
    """Whether anything has the form of a lot of these hows."""
    if not isinstance(value, tuple) or len(value) != 2 or not is_from(value[0], 0):
        return False
    if not isinstance(value[1], tuple) or len(value[1]) != len(hows):
        return False
    return all(is_tally(how, tally) for how, tally in zip(hows, value[1]))


def fresh(hows):
    """The lot into which nothing has come."""
    return (0, tuple([empty(how) for how in hows]))


def row_alone(hows, givens, sign):
    """The lot into which one row has come."""
    return (1, tuple([add(how, empty(how), given, sign) for how, given in zip(hows, givens)]))


def merged(hows, one, other):
    """The lot of all that has come into two."""
    tallies = [both(how, some, more) for how, some, more in zip(hows, one[1], other[1])]
    return (one[0] + other[0], tuple(tallies))


def put(hows, lot, givens, sign):
    """The lot behind one more row."""
    return merged(hows, lot, row_alone(hows, givens, sign))


def rows_in(lot):
    """How many rows have come into a lot, of either sign."""
    return lot[0]


def told(hows, lot):
    """What the tallies of a lot tell."""
    return tuple([tell(how, tally) for how, tally in zip(hows, lot[1])])


def can_part(hows):
    """Whether rows can be summed up in several lots, and what these tell be added."""
    return all(how in ("count", "sum") for how in hows)


def second_hows(hows):
    """The hows by which what several lots tell is added."""
    return tuple(["sum" for _ in hows])


def parting(how):
    """Two lists of (given, sign) that tell something else apart than together; how is "least" or "greatest"."""
    # What is taken back is not seen by the tally that has not seen it come: so it is whichever end is asked.
    return ([(1, 1)], [(1, -1)])


def _places(pairs, given):
    """The places of all pairs with this given."""
    return tuple([place for place, pair in enumerate(pairs) if pair[0] == given])


def shown(how, pairs):
    """The paper of what the tally of a list of (given, sign) tells; how is "least" or "greatest"."""
    given = tell(how, add_all(how, empty(how), pairs))
    return ("none",) if given is None else ("is", given, _places(pairs, given))


def _is_paper(value):
    """Whether anything has the form of a paper."""
    if not isinstance(value, tuple) or len(value) not in (1, 3):
        return False
    if len(value) == 1:
        return value[0] == "none"
    if value[0] != "is" or not _is_given(value[1]) or not isinstance(value[2], tuple):
        return False
    return all(is_from(place, 0) for place in value[2]) and is_rising(value[2])


def judge_shown(how, pairs, value):
    """None if anything is the paper of a list of (given, sign), else its first fault."""
    if not _is_paper(value):
        return ("form",)
    right = tell(how, add_all(how, empty(how), pairs))
    if value[0] == "none":
        return None if right is None else ("beyond", right)
    places = _places(pairs, value[1])
    if value[2] != places:
        return ("places", places)
    signs = sum([pairs[place][1] for place in places])
    if signs <= 0:
        return ("signs", signs)
    return None if value[1] == right else ("beyond", right)
