"""Nets told once more: one object that changes, with lists for channels and for what is to be sent."""

from oncestream.graphs import route
from oncestream.operators import operator_of
from oncestream.queries import steps_ahead

END = 10 ** 9


class PlainNet:
    def __init__(self, graph, room, begun):
        self.graph, self.room = graph, room
        plan, self.many = graph[0], dict(graph[1])
        self.tasks = [(name, number) for name, _ in plan for number in range(self.many[name])]
        self.ahead = {name: steps_ahead(plan, name) for name, _ in plan}
        self.inputs = {task: [((name, number), side, task) for side, name in enumerate(self.ahead[task[0]]) for number in range(self.many[name])]
                       for task in self.tasks}
        self.channels = {channel: [] for task in self.tasks for channel in self.inputs[task]}
        self.state = {task: begun[task][0] for task in self.tasks}
        self.came = {task: {channel: None for channel in self.inputs[task]} for task in self.tasks}
        self.mark, self.waiting, self.outbox = {}, {task: None for task in self.tasks}, {task: [] for task in self.tasks}
        for task in self.tasks:
            self.mark[task] = None
            self.tell(task, (), begun[task][1], None)

    def net(self):
        fields = {task: {"state": self.state[task], "marks": dict(self.came[task]), "mark": self.mark[task], "waiting": self.waiting_of(task),
                         "outbox": tuple(self.outbox[task])} for task in self.tasks}
        return {"graph": self.graph, "credits": self.room, "tasks": fields, "channels": {channel: tuple(things) for channel, things in self.channels.items()}}

    def waiting_of(self, task):
        return None if self.waiting[task] is None else (self.waiting[task][0], tuple(sorted(self.waiting[task][1])))

    def tell(self, task, rows, mark, barrier):
        for row in rows:
            for name, _ in self.graph[0]:
                for side, of in enumerate(self.ahead[name]):
                    if of == task[0]:
                        to = (name, route(self.graph, task, name, side, row[2]))
                        self.outbox[task].append(((task, side, to), ("row", row)))
        for word, told in (("mark", mark), ("barrier", barrier)):
            if told is not None:
                self.outbox[task] += [(channel, (word, told)) for channel in self.channels if channel[0] == task]
        if mark is not None:
            self.mark[task] = mark

    def can_send(self, task):
        return bool(self.outbox[task]) and len(self.channels[self.outbox[task][0][0]]) < self.room

    def can_take(self, channel):
        to = channel[2]
        return bool(self.channels[channel]) and not self.outbox[to] and not (self.waiting[to] and channel in self.waiting[to][1])

    def moves(self):
        return sorted([("send", task) for task in self.tasks if self.can_send(task)] + [("take", channel) for channel in self.channels if self.can_take(channel)])

    def send(self, task):
        channel, thing = self.outbox[task].pop(0)
        self.channels[channel].append(thing)

    def take(self, channel, epoch):
        """What is kept, and the letter; None for what there is not."""
        task, (word, told) = channel[2], self.channels[channel].pop(0)
        if word == "row":
            self.take_row(channel, told)
        elif word == "mark":
            self.take_mark(channel, told)
        else:
            return self.take_barrier(task, channel, told, epoch)
        return None, None

    def take_row(self, channel, row):
        task = channel[2]
        if task[0] == "out":
            self.state[task] = (self.state[task][0] + (row,), self.state[task][1])
        else:
            self.state[task], rows = operator_of(self.graph, task)[1](self.state[task], self.inputs[task].index(channel), row)
            self.tell(task, rows, None, None)

    def take_mark(self, channel, m):
        task = channel[2]
        self.came[task][channel] = m if self.came[task][channel] is None else max(m, self.came[task][channel])
        if None in self.came[task].values() or self.mark[task] is not None and min(self.came[task].values()) <= self.mark[task]:
            return
        least = min(self.came[task].values())
        if task[0] == "out":
            self.mark[task] = least
        else:
            self.state[task], rows = operator_of(self.graph, task)[2](self.state[task], least)
            self.tell(task, rows, least, None)

    def take_barrier(self, task, channel, n, epoch):
        n, come = self.waiting[task] or (n, [])
        come.append(channel)
        self.waiting[task] = (n, come)
        if len(come) < len(self.inputs[task]):
            return None, None
        self.waiting[task] = None
        if task[0] != "out":
            self.tell(task, (), None, n)
            return (n, task, self.state[task], self.mark[task]), None
        letter = ("hold", epoch, n, task, self.state[task][0])
        self.state[task] = ((), letter)
        return (n, task, (), self.mark[task]), letter

    def read(self, task, part, entry):
        parts, late, letter = self.state[task]
        marks = {number: mark for number, _, mark in parts}
        elder = min(marks.values())
        rows, mark = (), None
        if entry[0] == "mark":
            marks[part] = max(marks[part], entry[1])
            mark = min(marks.values()) if min(marks.values()) > elder else None
        elif entry[1] < marks[part]:
            late += (entry[1:],)
        else:
            rows = (entry[1:],)
        self.state[task] = (tuple((number, place + (number == part), marks[number]) for number, place, _ in parts), late, letter)
        self.tell(task, rows, mark, None)

    def stop(self, task, epoch, n):
        parts, late, _ = self.state[task]
        letter = ("hold", epoch, n, task, late)
        self.state[task] = (parts, (), letter)
        self.tell(task, (), None, n)
        return (n, task, parts, self.mark[task]), letter
