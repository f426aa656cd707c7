"""Plans of queries, the papers that tell how they come, and which queries look alike."""

from oncestream.queries import made_of, step_of
from oncestream.rewritings import applied, first_names, step_renamed

# The rules of each list are applied till none of them does any more, and then those of the next one.
LISTS = (
    ("spare", "fold", "all", "split", "make", "keepmake", "keepboth", "makeboth", "keepsum", "keepkeys", "keepleft",
     "keepright"),
    ("drop", "narrow", "make"),
    ("keepkeep", "same", "gather"),
)


def _next(plan, rules):
    """The plan behind the first rule that applies at the first such step, and both; None if none does."""
    for rule in rules:
        for name, _ in plan[:-1]:
            made = applied(plan, rule, name)
            if made is not None:
                return made, (rule, name)
    return None


def planned(query):
    """The plan of a query, and the paper of the rules that lead to it."""
    plan, paper = query, []
    for rules in LISTS:
        found = _next(plan, rules)
        while found is not None:
            plan = found[0]
            paper.append(found[1])
            found = _next(plan, rules)
    return plan, tuple(paper)


def _is_form(value):
    """Whether anything is a pair whose second member is a tuple of pairs."""
    if not isinstance(value, tuple) or len(value) != 2 or not isinstance(value[1], tuple):
        return False
    return all(isinstance(pair, tuple) and len(pair) == 2 for pair in value[1])


def _is_same(plan, value):
    """Whether anything is this plan, with integers for integers."""
    waiting = [(plan, value)]
    while waiting:
        one, other = waiting.pop()
        if isinstance(one, tuple) and isinstance(other, tuple) and len(one) == len(other):
            waiting.extend(list(zip(one, other)))
        elif isinstance(other, bool) or one != other:
            return False
    return True


def judge_plan(query, value):
    """None if anything is a plan with a paper of rules that lead to it from the query, else its first fault."""
    if not _is_form(value):
        return ("form",)
    plan = query
    for number, (rule, name) in enumerate(value[1]):
        plan = applied(plan, rule, name) if isinstance(rule, str) else None
        if plan is None:
            return ("rule", number)
    return None if _is_same(plan, value[0]) else ("plan",)


def _finished(plan, name, done):
    """The names in done, and behind them those of a step and of all on which it hangs, each as it is finished."""
    for of in made_of(step_of(plan, name)):
        if of not in done:
            done = _finished(plan, of, done)
    return done + [name]


def canonical(plan):
    """The plan with the steps on which "out" hangs alone, in an order and with names that tell nothing."""
    order = _finished(plan, plan[-1][1], [])
    steps = [(name, step_of(plan, name)) for name in order]
    sources = [name for name, step in steps if step[0] == "source"]
    others = [name for name in order if name not in sources]
    names = {name: name for name in sources}
    for name, other in zip(others, first_names(sources, len(others))):
        names[name] = other
    return tuple([(names[name], step_renamed(step, names)) for name, step in steps]) + (("out", names[plan[-1][1]]),)


def look_alike(one, other):
    """Whether the plans of two queries are the same but for the order and the names of steps."""
    return canonical(planned(one)[0]) == canonical(planned(other)[0])
