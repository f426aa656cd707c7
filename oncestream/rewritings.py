"""Plans, and the rules that write one anew without changing what it gives."""

from oncestream.expressions import columns_in, count_ands, folded, parts_of, put_in
from oncestream.queries import all_columns, made_of, step_of, told_expressions
from oncestream.values import LETTERS

MOST_PARTS = 200
MOST_HEIGHT = 63


def plan_columns(plan, name):
    """The columns of a step."""
    return all_columns(plan)[name]


def first_names(taken, many):
    """The least names that are none of those taken, so many, by the number of letters, then by the alphabet."""
    found, ahead = [], [""]
    while len(found) < many:
        ahead = [name + letter for name in ahead for letter in LETTERS]
        found.extend([name for name in ahead if name not in taken])
    return found[:many]


def _fresh_names(plan, many):
    return first_names([name for name, _ in plan], many)


def fresh(plan):
    """The least name that no pair of the plan has."""
    return _fresh_names(plan, 1)[0]


def step_renamed(step, names):
    """The step made of the steps with other names, where the dict tells such."""
    many = len(made_of(step))
    return step[:1] + tuple([names.get(of, of) for of in step[1:1 + many]]) + step[1 + many:]


def _renamed(plan, names):
    """The plan in which all readers of some steps read others, as the dict tells."""
    of = plan[-1][1]
    return tuple([(name, step_renamed(step, names)) for name, step in plan[:-1]]) + (("out", names.get(of, of)),)


def _readers(plan, name):
    """The names of the readers of a step, each as often as it reads it; "out" is one of them."""
    found = [other for other, step in plan[:-1] for of in made_of(step) if of == name]
    return found + ["out"] if plan[-1][1] == name else found


def _without(plan, name):
    """The plan without the pair with this name."""
    return tuple([pair for pair in plan if pair[0] != name])


def _replaced(plan, at, ahead, step):
    """The plan with these pairs right ahead of the one at this place, which gets another step."""
    return plan[:at] + tuple(ahead) + ((plan[at][0], step),) + plan[at + 1:]


def _sole(plan, at, word):
    """The step that the one at this place is made of, if it is such a one and alone for it; else None."""
    name, step = plan[at]
    ahead = step_of(plan, step[1])
    return ahead if ahead[0] == word and _readers(plan, step[1]) == [name] else None


def _merged(plan, at, ahead, step):
    """As _replaced, and the step that the one at this place was made of is left out."""
    return _without(_replaced(plan, at, ahead, step), plan[at][1][1])


def _with_expressions(step, change):
    """The step with each of its expressions changed."""
    if step[0] == "keep":
        return step[:2] + (change(step[2]),)
    return step[:-1] + (tuple([told[:-1] + (change(told[-1]),) for told in step[-1]]),)


def _is_foldable(step):
    """Whether a step is one that can be folded, and some expression of it is foldable."""
    return step[0] in ("keep", "make", "sum") and any(folded(e) != e for e in told_expressions(step))


def _has_only(e, names):
    """Whether all columns of an expression are among these names."""
    return all(name in names for name in columns_in(e))


# Each rule takes a plan and the place of the step at which it is applied, and returns the plan that comes,
# None if it does not apply there.


def _spare(plan, at):
    name, step = plan[at]
    return None if step[0] == "source" or len(_readers(plan, name)) > 0 else _without(plan, name)


def _fold(plan, at):
    step = plan[at][1]
    return _replaced(plan, at, [], _with_expressions(step, folded)) if _is_foldable(step) else None


def _keep_all(plan, at):
    name, step = plan[at]
    if step[0] != "keep" or step[2][0] != "value" or step[2][1] in (None, 0):
        return None
    return _without(_renamed(plan, {name: step[1]}), name)


def _split(plan, at):
    step = plan[at][1]
    if step[0] != "keep" or step[2][0] != "and":
        return None
    name = fresh(plan)
    return _replaced(plan, at, [(name, ("keep", step[1], step[2][1]))], ("keep", name, step[2][2]))


def _make(plan, at):
    step = plan[at][1]
    ahead = _sole(plan, at, "make") if step[0] == "make" else None
    if ahead is None:
        return None
    told = tuple([(column, put_in(e, dict(ahead[2]))) for column, e in step[2]])
    return _merged(plan, at, [], ("make", ahead[1], told))


def _keep_make(plan, at):
    step = plan[at][1]
    ahead = _sole(plan, at, "make") if step[0] == "keep" else None
    if ahead is None:
        return None
    name = fresh(plan)
    kept = ("keep", ahead[1], put_in(step[2], dict(ahead[2])))
    return _merged(plan, at, [(name, kept)], ("make", name, ahead[2]))


def _through_both(plan, at, word):
    """The rules that put a keep or a make ahead of a both."""
    step = plan[at][1]
    ahead = _sole(plan, at, "both") if step[0] == word else None
    if ahead is None:
        return None
    one, other = _fresh_names(plan, 2)
    pairs = [(one, (word, ahead[1], step[2])), (other, (word, ahead[2], step[2]))]
    return _merged(plan, at, pairs, ("both", one, other))


def _keep_both(plan, at):
    return _through_both(plan, at, "keep")


def _make_both(plan, at):
    return _through_both(plan, at, "make")


def _keep_sum(plan, at):
    step = plan[at][1]
    ahead = _sole(plan, at, "sum") if step[0] == "keep" else None
    if ahead is None or not _has_only(step[2], ahead[2]):
        return None
    name = fresh(plan)
    return _merged(plan, at, [(name, ("keep", ahead[1], step[2]))], ("sum", name) + ahead[2:])


def _kept_join(plan, at):
    """The join that a keep is made of, alone for it; None if there is none."""
    return _sole(plan, at, "join") if plan[at][1][0] == "keep" else None


def _keep_keys(plan, at):
    step, ahead = plan[at][1], _kept_join(plan, at)
    if ahead is None or not _has_only(step[2], ahead[3]):
        return None
    one, other = _fresh_names(plan, 2)
    pairs = [(one, ("keep", ahead[1], step[2])), (other, ("keep", ahead[2], step[2]))]
    return _merged(plan, at, pairs, ("join", one, other) + ahead[3:])


def _keep_side(plan, at, side):
    """The rules that put a keep ahead of one side of a join, 1 for left and 2 for right."""
    step, ahead = plan[at][1], _kept_join(plan, at)
    if ahead is None or _has_only(step[2], ahead[3]):
        return None
    # A column that is no key stands on one side alone: so what fits the right side does not fit the left one.
    if not _has_only(step[2], dict(plan_columns(plan, ahead[side]))):
        return None
    name = fresh(plan)
    joined = ahead[:side] + (name,) + ahead[side + 1:]
    return _merged(plan, at, [(name, ("keep", ahead[side], step[2]))], joined)


def _keep_left(plan, at):
    return _keep_side(plan, at, 1)


def _keep_right(plan, at):
    return _keep_side(plan, at, 2)


def _drop(plan, at):
    name, step = plan[at]
    if step[0] not in ("make", "sum"):
        return None
    wanted = needed(plan)[name]
    told = tuple([column for column in step[-1] if column[0] in wanted])
    return None if told == step[-1] else _replaced(plan, at, [], step[:-1] + (told,))


def _narrow(plan, at):
    name, step = plan[at]
    wanted = needed(plan)[name]
    if step[0] not in ("source", "join", "both") or len(wanted) == len(plan_columns(plan, name)):
        return None
    # "out" needs all columns: so it is no reader here.
    if all(step_of(plan, reader)[0] == "make" for reader in _readers(plan, name)):
        return None
    made = fresh(plan)
    pair = (made, ("make", name, tuple([(column, ("column", column)) for column in wanted])))
    changed = _renamed(plan, {name: made})
    return changed[:at + 1] + (pair,) + changed[at + 1:]


def _keep_keep(plan, at):
    step = plan[at][1]
    ahead = _sole(plan, at, "keep") if step[0] == "keep" else None
    return None if ahead is None else _merged(plan, at, [], ("keep", ahead[1], ("and", ahead[2], step[2])))


def _same(plan, at):
    name, step = plan[at]
    equal = [other for other, earlier in plan[:at] if earlier == step]
    if step[0] == "source" or len(equal) == 0:
        return None
    return _without(_renamed(plan, {name: equal[0]}), name)


def _gather(plan, at):
    step = plan[at][1]
    if step[0] != "sum" or step[3][0] == "session" or not all(told[1] in ("count", "sum") for told in step[4]):
        return None
    name = fresh(plan)
    return _replaced(plan, at, [(name, ("gather",) + step[1:])], ("finish", name) + step[2:])


RULES = {
    "spare": _spare, "fold": _fold, "all": _keep_all, "split": _split, "make": _make, "keepmake": _keep_make,
    "keepboth": _keep_both, "makeboth": _make_both, "keepsum": _keep_sum, "keepkeys": _keep_keys,
    "keepleft": _keep_left, "keepright": _keep_right, "drop": _drop, "narrow": _narrow, "keepkeep": _keep_keep,
    "same": _same, "gather": _gather,
}


def _is_within_bounds(plan):
    """Whether no expression in the plan has too many parts."""
    return all(parts_of(e) <= MOST_PARTS for _, step in plan[:-1] for e in told_expressions(step))


def applied(plan, rule, name):
    """The plan that comes of a rule at a step, None if it does not apply or there is no such rule or step."""
    names = [pair[0] for pair in plan[:-1]]
    if rule not in RULES or name not in names:
        return None
    action = RULES[rule]
    made = action(plan, names.index(name))
    return None if made is None or not _is_within_bounds(made) else made


def _needs(step, columns, wanted):
    """The names of the columns that a step needs of one with these columns, some that it has not among them."""
    if step[0] == "keep":
        return wanted + list(columns_in(step[2]))
    if step[0] in ("make", "sum"):
        keys = list(step[2]) if step[0] == "sum" else []
        return keys + [name for e in told_expressions(step) for name in columns_in(e)]
    if step[0] == "join":
        return wanted + list(step[3])
    return [name for name, _ in columns]


def needed(plan):
    """The names of the needed columns of all steps, in the order of their columns."""
    columns, wanted, told = all_columns(plan), {}, {}
    for name, _ in plan[:-1]:
        wanted[name] = []
    wanted[plan[-1][1]].extend([column[0] for column in columns["out"]])
    # All readers of a step stand behind it: gone from the end on, each is done ahead of what it reads.
    for name, step in plan[-2::-1]:
        for of in made_of(step):
            wanted[of].extend(_needs(step, columns[of], wanted[name]))
    for name, _ in plan[:-1]:
        told[name] = tuple([column[0] for column in columns[name] if column[0] in wanted[name]])
    return told


def unplanned(plan):
    """The query that a plan comes of, its gathers and finishes put together again."""
    made = []
    for name, step in plan[:-1]:
        if step[0] == "finish":
            made.append((name, ("sum",) + step_of(plan, step[1])[1:]))
        elif step[0] != "gather":
            made.append((name, step))
    return tuple(made) + plan[-1:]


def _heights(plan):
    """The heights of all steps by their names."""
    heights = {}
    for name, step in plan[:-1]:
        highest = max([heights[of] for of in made_of(step)], default=-1)
        heights[name] = highest if step[0] == "keep" else highest + 1
    return heights


def _copies(plan):
    """For each step 3, taken as often as a factor as the most boths stand on a way from a source to it."""
    copies = {}
    for name, step in plan[:-1]:
        most = max([copies[of] for of in made_of(step)], default=1)
        copies[name] = 3 * most if step[0] == "both" else most
    return copies


def weight_of(plan):
    """The numbers that the rules of the first list make less."""
    heights, copies = _heights(plan), _copies(plan)
    keeps = [(heights[name], 1 + 2 * count_ands(step[2])) for name, step in plan[:-1] if step[0] == "keep"]
    by_height = [sum([many for height, many in keeps if height == level]) for level in range(MOST_HEIGHT, -1, -1)]
    makes = sum([copies[step[1]] for _, step in plan[:-1] if step[0] == "make"])
    foldable = len([name for name, step in plan[:-1] if _is_foldable(step)])
    return tuple(by_height) + (makes, foldable, len(plan))
