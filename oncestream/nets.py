"""Nets: all tasks of a graph with the channels between them, and each single thing that they can do.

Nothing in a net that is passed is ever changed: what is done makes a new net, which shares with the elder one what
stayed as it was. Apart from that stand the functions with _on: they change a net that is the caller's own, made by
own_net, which shares no dict of tasks or of channels with another one; the fields of each task are shared even so.
"""

from oncestream.barriers import come, is_held
from oncestream.errors import Blocked
from oncestream.groups import begun_of, fresh_by
from oncestream.marks import new_marks, put_mark, risen
from oncestream.sinks import at_sink, put_row
from oncestream.sources import at_source, read
from oncestream.wiring import Wiring


def own_net(net):
    """A net of one's own that stands alike."""
    return {**net, "tasks": {**net["tasks"]}, "channels": {**net["channels"]}}


def _telling(wiring, fields, task, rows, mark, barrier):
    """The fields of a task that has rows, a mark and a barrier more to send; None stands for no mark and no barrier."""
    things = [(channel, ("row", row)) for row in rows for channel in wiring.row_channels(task, row[2])]
    if mark is not None:
        thing = ("mark", mark)
        things.extend([(channel, thing) for channel in wiring.outputs(task)])
        fields = {**fields, "mark": mark}
    if barrier is not None:
        thing = ("barrier", barrier)
        things.extend([(channel, thing) for channel in wiring.outputs(task)])
    return {**fields, "outbox": fields["outbox"] + tuple(things)}


def tell(net, task, rows, mark, barrier):
    """The net in which a task has rows, a mark and a barrier more to send; None stands for no mark and no barrier."""
    net = own_net(net)
    net["tasks"][task] = _telling(Wiring(net["graph"]), net["tasks"][task], task, rows, mark, barrier)
    return net


def net_by(wiring, room, begun):
    """What net_of returns, by a wiring of the graph."""
    tasks, channels = {}, {}
    wiring.connect()
    for task in wiring.tasks():
        state, mark = begun[task]
        inputs = wiring.inputs(task)
        fields = {"state": state, "marks": new_marks(inputs), "mark": None, "waiting": None, "outbox": ()}
        tasks[task] = _telling(wiring, fields, task, (), mark, None)
        for channel in inputs:
            channels[channel] = ()
    return {"graph": wiring.graph, "credits": room, "tasks": tasks, "channels": channels}


def net_of(graph, room, begun):
    """The net in which each task begins with a state and a mark, which it has told; a channel holds at most room."""
    return net_by(Wiring(graph), room, begun)


def fresh_net(graph, parts, room):
    """The net at the beginning, by how many parts each source has."""
    wiring = Wiring(graph)
    return net_by(wiring, room, begun_of(graph[0], fresh_by(wiring, parts)))


def may_send(net, task):
    """Whether a task can send what it has to send next."""
    outbox = net["tasks"][task]["outbox"]
    return len(outbox) > 0 and len(net["channels"][outbox[0][0]]) < net["credits"]


def send_on(net, task):
    """Lets a task that may send do so, and returns the channel on which it sends."""
    fields, channels = net["tasks"][task], net["channels"]
    outbox = fields["outbox"]
    channel, thing = outbox[0]
    net["tasks"][task] = {**fields, "outbox": outbox[1:]}
    channels[channel] = channels[channel] + (thing,)
    return channel


def sent(net, task):
    """The net behind the sending of the next thing that a task has to send."""
    if not may_send(net, task):
        raise Blocked()
    net = own_net(net)
    send_on(net, task)
    return net


def may_take(net, channel):
    """Whether the next thing can be taken off a channel."""
    fields = net["tasks"][channel[2]]
    return len(net["channels"][channel]) > 0 and len(fields["outbox"]) == 0 and not is_held(fields["waiting"], channel)


# What is taken changes the fields of the task that takes it, and nothing else but the channel.


def _row_taken(wiring, fields, channel, row):
    """The fields of a task behind a row that it has taken."""
    task = channel[2]
    if task[0] == "out":
        return {**fields, "state": put_row(fields["state"], row)}
    put = wiring.operator(task[0])[1]
    state, rows = put(fields["state"], wiring.input_number(channel), row)
    fields = {**fields, "state": state}
    return _telling(wiring, fields, task, rows, None, None) if len(rows) > 0 else fields


def _mark_taken(wiring, fields, channel, m):
    """The fields of a task behind a mark that it has taken."""
    task, marks = channel[2], put_mark(fields["marks"], channel, m)
    mark = risen(marks, fields["mark"])
    if mark is None:
        return {**fields, "marks": marks}
    if task[0] == "out":
        return {**fields, "marks": marks, "mark": mark}
    marked = wiring.operator(task[0])[2]
    state, rows = marked(fields["state"], mark)
    return _telling(wiring, {**fields, "marks": marks, "state": state}, task, rows, mark, None)


def _barrier_taken(wiring, fields, channel, epoch, n):
    """The fields of a task behind a barrier that it has taken, what is kept then, and the letter to the outside."""
    task = channel[2]
    waiting, is_all = come(fields["waiting"], wiring.inputs(task), channel, n)
    fields = {**fields, "waiting": waiting}
    if not is_all:
        return fields, None, None
    if task[0] == "out":
        sink, kept, letter = at_sink(fields["state"], epoch, n, task)
        return {**fields, "state": sink}, (n, task, kept, fields["mark"]), letter
    return _telling(wiring, fields, task, (), None, n), (n, task, fields["state"], fields["mark"]), None


def take_on(wiring, net, channel, epoch):
    """Takes a thing that may be taken off a channel; returns what is kept then, and the letter to the outside."""
    tasks, channels, task = net["tasks"], net["channels"], channel[2]
    things, fields, kept, letter = channels[channel], tasks[task], None, None
    word, told = things[0]
    if word == "row":
        fields = _row_taken(wiring, fields, channel, told)
    elif word == "mark":
        fields = _mark_taken(wiring, fields, channel, told)
    else:
        fields, kept, letter = _barrier_taken(wiring, fields, channel, epoch, told)
    tasks[task] = fields
    channels[channel] = things[1:]
    return kept, letter


def taken(net, channel, epoch):
    """The net behind the taking of the next thing off a channel, what is kept then, and the letter to the outside."""
    if not may_take(net, channel):
        raise Blocked()
    net = own_net(net)
    kept, letter = take_on(Wiring(net["graph"]), net, channel, epoch)
    return net, kept, letter


def _need_empty(net, task):
    """Raises Blocked if a task has something to send."""
    if len(net["tasks"][task]["outbox"]) > 0:
        raise Blocked()


def read_on(wiring, net, task, part, entry):
    """Lets a source task without anything to send read the next entry of a part."""
    fields = net["tasks"][task]
    source, things = read(fields["state"], part, entry)
    fields = {**fields, "state": source}
    for word, told in things:
        if word == "row":
            fields = _telling(wiring, fields, task, (told,), None, None)
        else:
            fields = _telling(wiring, fields, task, (), told, None)
    net["tasks"][task] = fields


def read_in(net, task, part, entry):
    """The net behind the next entry of a part that a source task reads."""
    _need_empty(net, task)
    net = own_net(net)
    read_on(Wiring(net["graph"]), net, task, part, entry)
    return net


def stop_on(wiring, net, task, epoch, n):
    """Lets a source task without anything to send put a barrier in; returns what is kept then, and the letter."""
    fields = net["tasks"][task]
    source, kept, letter = at_source(fields["state"], epoch, n, task)
    net["tasks"][task] = _telling(wiring, {**fields, "state": source}, task, (), None, n)
    return (n, task, kept, fields["mark"]), letter


def stopped(net, task, epoch, n):
    """The net behind a barrier that a source task puts in, what is kept then, and the letter to the outside."""
    _need_empty(net, task)
    net = own_net(net)
    kept, letter = stop_on(Wiring(net["graph"]), net, task, epoch, n)
    return net, kept, letter


def can_move(net):
    """The ascending list of all that can be done: things that may be sent, and channels that may be taken from."""
    telling = [task for task, fields in net["tasks"].items() if len(fields["outbox"]) > 0]
    filled = [channel for channel, things in net["channels"].items() if len(things) > 0]
    sends = sorted([("send", task) for task in telling if may_send(net, task)])
    return sends + sorted([("take", channel) for channel in filled if may_take(net, channel)])


def moved(net, move, epoch):
    """The net behind a move, what is kept then, and the letter to the outside."""
    word, place = move
    return (sent(net, place), None, None) if word == "send" else taken(net, place, epoch)


def is_idle(net):
    """Whether nothing is to be sent and nothing to be taken."""
    boxes = [fields["outbox"] for fields in net["tasks"].values()]
    return all(len(things) == 0 for things in boxes + list(net["channels"].values()))


def run_idle(net, epoch):
    """The net behind all that can be done, the first each time, all that is kept then, and all letters."""
    wiring, net, all_kept, letters = Wiring(net["graph"]), own_net(net), [], []
    moves = can_move(net)
    while len(moves) > 0:
        word, place = moves[0]
        if word == "send":
            send_on(net, place)
        else:
            kept, letter = take_on(wiring, net, place, epoch)
            all_kept.extend([kept] if kept is not None else [])
            letters.extend([letter] if letter is not None else [])
        moves = can_move(net)
    return net, all_kept, letters
