"""Nets: all tasks of a graph with the channels between them, and each single thing that they can do.

Nothing in a net is ever changed: what is done makes a new net, which shares with the elder one what stayed as it was.
"""

from oncestream.barriers import come, is_held
from oncestream.errors import Blocked
from oncestream.graphs import channels_of, inputs_of, outputs_of, readers_of, route, tasks_of
from oncestream.groups import begun_of, fresh_kept
from oncestream.marks import new_marks, put_mark, risen
from oncestream.operators import operator_of
from oncestream.sinks import at_sink, put_row
from oncestream.sources import at_source, read


def _with_fields(net, task, fields):
    """The net in which these fields of a task are other ones."""
    return {**net, "tasks": {**net["tasks"], task: {**net["tasks"][task], **fields}}}


def _with_things(net, channel, things):
    """The net in which other things are on a channel."""
    return {**net, "channels": {**net["channels"], channel: things}}


def _row_channels(graph, task, values):
    """The channels on which a task sends a row with these values."""
    return [
        (task, side, (name, route(graph, task, name, side, values)))
        for name, sides in readers_of(graph[0], task[0]) for side in sides
    ]


def tell(net, task, rows, mark, barrier):
    """The net in which a task has rows, a mark and a barrier more to send; None stands for no mark and no barrier."""
    sent_on, outputs = [], outputs_of(net["graph"], task)
    for row in rows:
        sent_on.extend([(channel, ("row", row)) for channel in _row_channels(net["graph"], task, row[2])])
    fields = {}
    if mark is not None:
        sent_on.extend([(channel, ("mark", mark)) for channel in outputs])
        fields["mark"] = mark
    if barrier is not None:
        sent_on.extend([(channel, ("barrier", barrier)) for channel in outputs])
    fields["outbox"] = net["tasks"][task]["outbox"] + tuple(sent_on)
    return _with_fields(net, task, fields)


def net_of(graph, room, begun):
    """The net in which each task begins with a state and a mark, which it has told; a channel holds at most room."""
    tasks = {}
    for task in tasks_of(graph):
        marks = new_marks(inputs_of(graph, task))
        tasks[task] = {"state": begun[task][0], "marks": marks, "mark": None, "waiting": None, "outbox": ()}
    net = {"graph": graph, "credits": room, "tasks": tasks, "channels": {channel: () for channel in channels_of(graph)}}
    for task in tasks_of(graph):
        net = tell(net, task, (), begun[task][1], None)
    return net


def fresh_net(graph, parts, room):
    """The net at the beginning, by how many parts each source has."""
    plan, workers = graph
    return net_of(graph, room, begun_of(plan, fresh_kept(plan, workers, parts)))


def may_send(net, task):
    """Whether a task can send what it has to send next."""
    outbox = net["tasks"][task]["outbox"]
    return len(outbox) > 0 and len(net["channels"][outbox[0][0]]) < net["credits"]


def sent(net, task):
    """The net behind the sending of the next thing that a task has to send."""
    if not may_send(net, task):
        raise Blocked()
    outbox = net["tasks"][task]["outbox"]
    channel, thing = outbox[0]
    return _with_things(_with_fields(net, task, {"outbox": outbox[1:]}), channel, net["channels"][channel] + (thing,))


def may_take(net, channel):
    """Whether the next thing can be taken off a channel."""
    fields = net["tasks"][channel[2]]
    return len(net["channels"][channel]) > 0 and len(fields["outbox"]) == 0 and not is_held(fields["waiting"], channel)


def _take_row(net, channel, row):
    """The net behind a row that its task has taken."""
    task = channel[2]
    state = net["tasks"][task]["state"]
    if task[0] == "out":
        return _with_fields(net, task, {"state": put_row(state, row)})
    put = operator_of(net["graph"], task)[1]
    state, rows = put(state, inputs_of(net["graph"], task).index(channel), row)
    return tell(_with_fields(net, task, {"state": state}), task, rows, None, None)


def _take_mark(net, channel, m):
    """The net behind a mark that its task has taken."""
    task = channel[2]
    fields = net["tasks"][task]
    marks = put_mark(fields["marks"], channel, m)
    mark = risen(marks, fields["mark"])
    net = _with_fields(net, task, {"marks": marks})
    if mark is None:
        return net
    # A sink is marked, too: that leaves it as it is, and it tells nothing, as nothing is behind it.
    marked = operator_of(net["graph"], task)[2]
    state, rows = marked(fields["state"], mark)
    return tell(_with_fields(net, task, {"state": state}), task, rows, mark, None)


def _take_barrier(net, channel, epoch, n):
    """The net behind a barrier that its task has taken, what is kept then, and the letter to the outside."""
    task = channel[2]
    fields = net["tasks"][task]
    waiting, is_all = come(fields["waiting"], inputs_of(net["graph"], task), channel, n)
    net = _with_fields(net, task, {"waiting": waiting})
    if not is_all:
        return net, None, None
    if task[0] == "out":
        sink, kept, letter = at_sink(fields["state"], epoch, n, task)
        return _with_fields(net, task, {"state": sink}), (n, task, kept, fields["mark"]), letter
    return tell(net, task, (), None, n), (n, task, fields["state"], fields["mark"]), None


def taken(net, channel, epoch):
    """The net behind the taking of the next thing off a channel, what is kept then, and the letter to the outside."""
    if not may_take(net, channel):
        raise Blocked()
    things = net["channels"][channel]
    net, (word, told) = _with_things(net, channel, things[1:]), things[0]
    if word == "row":
        return _take_row(net, channel, told), None, None
    if word == "mark":
        return _take_mark(net, channel, told), None, None
    return _take_barrier(net, channel, epoch, told)


def _need_empty(net, task):
    """Raises Blocked if a task has something to send."""
    if len(net["tasks"][task]["outbox"]) > 0:
        raise Blocked()


def read_in(net, task, part, entry):
    """The net behind the next entry of a part that a source task reads."""
    _need_empty(net, task)
    source, things = read(net["tasks"][task]["state"], part, entry)
    net = _with_fields(net, task, {"state": source})
    for word, told in things:
        net = tell(net, task, (told,), None, None) if word == "row" else tell(net, task, (), told, None)
    return net


def stopped(net, task, epoch, n):
    """The net behind a barrier that a source task puts in, what is kept then, and the letter to the outside."""
    _need_empty(net, task)
    fields = net["tasks"][task]
    source, kept, letter = at_source(fields["state"], epoch, n, task)
    net = tell(_with_fields(net, task, {"state": source}), task, (), None, n)
    return net, (n, task, kept, fields["mark"]), letter


def can_move(net):
    """The ascending list of all that can be done: things that may be sent, and channels that may be taken from."""
    filled = [channel for channel, things in net["channels"].items() if len(things) > 0]
    sends = sorted([("send", task) for task in net["tasks"] if may_send(net, task)])
    return sends + sorted([("take", channel) for channel in filled if may_take(net, channel)])


def moved(net, move, epoch):
    """The net behind a move, what is kept then, and the letter to the outside."""
    word, place = move
    return (sent(net, place), None, None) if word == "send" else taken(net, place, epoch)


def is_idle(net):
    """Whether nothing is to be sent and nothing to be taken."""
    boxes = [fields["outbox"] for fields in net["tasks"].values()]
    return all(len(things) == 0 for things in boxes + list(net["channels"].values()))


def run_idle(net, epoch):
    """The net behind all that can be done, the first each time, all that is kept then, and all letters."""
    all_kept, letters = [], []
    moves = can_move(net)
    while len(moves) > 0:
        net, kept, letter = moved(net, moves[0], epoch)
        all_kept.extend([kept] if kept is not None else [])
        letters.extend([letter] if letter is not None else [])
        moves = can_move(net)
    return net, all_kept, letters
