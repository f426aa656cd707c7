"""Graphs: by how many tasks each step is done, the channels between them, and which task gets a row."""

from oncestream.queries import all_columns, keys_of, made_of, out_of, step_of, steps_ahead
from oncestream.values import places_in

GROUPS = 16
FACTOR = 131
MODULUS = 1000003
SIGNS = " 0123456789-_abcdefghijklmnopqrstuvwxyzABCDEFGHIJKLMNOPQRSTUVWXYZ"


def graph(plan, workers):
    """The graph of a plan, by the dict that tells for each step how many tasks do it."""
    return (plan, tuple(sorted([(name, workers[name]) for name in workers])))


def tasks_at(graph, name):
    """The tasks of the step with this name."""
    return [(name, number) for number in range(dict(graph[1])[name])]


def tasks_of(graph):
    """All tasks, in the order of the steps."""
    return [task for name, _ in graph[0] for task in tasks_at(graph, name)]


def inputs_of(graph, task):
    """The channels that lead to a task."""
    ahead = steps_ahead(graph[0], task[0])
    return [(sender, side, task) for side, name in enumerate(ahead) for sender in tasks_at(graph, name)]


def channels_of(graph):
    """All channels: by the task to which they lead, then by side, then by the number of the sender."""
    return [channel for task in tasks_of(graph) for channel in inputs_of(graph, task)]


def readers_by_name(plan):
    """The pairs (name, sides) of all readers of each step, by its name; they are in order, "out" last."""
    readers = {name: [] for name, _ in plan}
    for name, step in plan[:-1]:
        ahead = made_of(step)
        if len(ahead) == 2 and ahead[0] == ahead[1]:
            readers[ahead[0]].append((name, (0, 1)))
        else:
            for side, of in enumerate(ahead):
                readers[of].append((name, (side,)))
    readers[out_of(plan)].append(("out", (0,)))
    return readers


def outputs_of(graph, task):
    """The channels that leave a task."""
    readers = readers_by_name(graph[0])[task[0]]
    return [(task, side, other) for name, sides in readers for other in tasks_at(graph, name) for side in sides]


def _number_of(value):
    """What a value adds to the number of a key."""
    if value is None:
        return 1
    if isinstance(value, str):
        return 5 + sum([at * (SIGNS.index(sign) + 1) for at, sign in enumerate(value, 1)])
    return 2 + 2 * value if value >= 0 else 1 - 2 * value


def group(key):
    """The group of a key, a tuple of values."""
    number = 7
    for value in key:
        number = (number * FACTOR + _number_of(value)) % MODULUS
    return number % GROUPS


def owner(g, workers):
    """The number of the task, of so many, that does a group."""
    return g * workers // GROUPS


def is_keyed(step):
    """Whether a row's key tells which task of a step gets it."""
    return step[0] in ("sum", "finish", "join")


def keyed_owner(places, values, many):
    """The number of the task, of so many, that gets a row with these values, its key at these places."""
    return owner(group([values[place] for place in places]), many)


def shared_out(entries, key_of, many):
    """What each of so many tasks gets of a list of entries, by the keys that key_of tells of them."""
    lots = [[] for _ in range(many)]
    for entry in entries:
        lots[owner(group(key_of(entry)), many)].append(entry)
    return [tuple(lot) for lot in lots]


def route(graph, task, name, side, values):
    """The number of the task of a step that gets a row with these values from a task."""
    plan, many = graph[0], dict(graph[1])[name]
    step = ("out",) if name == "out" else step_of(plan, name)
    if not is_keyed(step):
        return task[1] % many
    return keyed_owner(places_in(all_columns(plan)[made_of(step)[side]], keys_of(step)), values, many)
