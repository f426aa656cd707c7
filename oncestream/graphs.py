"""Graphs: by how many tasks each step is done, the channels between them, and which task gets a row."""

from oncestream.queries import all_columns, keys_of, made_of, out_of, step_of, steps_ahead, steps_behind
from oncestream.values import values_of

GROUPS = 16
FACTOR = 131
MODULUS = 1000003
SIGNS = " 0123456789-_abcdefghijklmnopqrstuvwxyzABCDEFGHIJKLMNOPQRSTUVWXYZ"


def graph(plan, workers):
    """The graph of a plan, by the dict that tells for each step how many tasks do it."""
    return (plan, tuple(sorted([(name, workers[name]) for name in workers])))


def tasks_at(graph, name):
    """The tasks of the step with this name."""
    return [(name, number) for number in range(dict(graph[1])[name])]


def tasks_of(graph):
    """All tasks, in the order of the steps."""
    return [task for name, _ in graph[0] for task in tasks_at(graph, name)]


def inputs_of(graph, task):
    """The channels that lead to a task."""
    ahead = steps_ahead(graph[0], task[0])
    return [(sender, side, task) for side, name in enumerate(ahead) for sender in tasks_at(graph, name)]


def channels_of(graph):
    """All channels: by the task to which they lead, then by side, then by the number of the sender."""
    return [channel for task in tasks_of(graph) for channel in inputs_of(graph, task)]


def readers_of(plan, name):
    """The pairs (name, sides) of all steps made of a step, in order, "out" last: on which sides each names it."""
    readers = steps_behind(plan, name) + (("out",) if out_of(plan) == name else ())
    ahead = [(other, steps_ahead(plan, other)) for other in readers]
    return [(other, tuple([side for side, of in enumerate(names) if of == name])) for other, names in ahead]


def outputs_of(graph, task):
    """The channels that leave a task."""
    readers = readers_of(graph[0], task[0])
    return [(task, side, other) for name, sides in readers for other in tasks_at(graph, name) for side in sides]


def _number_of(value):
    """What a value adds to the number of a key."""
    if value is None:
        return 1
    if isinstance(value, str):
        return 5 + sum([at * (SIGNS.index(sign) + 1) for at, sign in enumerate(value, 1)])
    return 2 + 2 * value if value >= 0 else 1 - 2 * value


def group(key):
    """The group of a key, a tuple of values."""
    number = 7
    for value in key:
        number = (number * FACTOR + _number_of(value)) % MODULUS
    return number % GROUPS


def owner(g, workers):
    """The number of the task, of so many, that does a group."""
    return g * workers // GROUPS


def route(graph, task, name, side, values):
    """The number of the task of a step that gets a row with these values from a task."""
    plan, many = graph[0], dict(graph[1])[name]
    step = ("out",) if name == "out" else step_of(plan, name)
    if step[0] not in ("sum", "finish", "join"):
        return task[1] % many
    columns = all_columns(plan)[made_of(step)[side]]
    return owner(group(values_of(columns, keys_of(step), values)), many)
