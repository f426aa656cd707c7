"""What can be told of a graph once and for all: who sends what to whom, and what its tasks do.

A net is run by a wiring of its graph: so nothing of this is found out anew for each single thing that is done.
"""

from oncestream.graphs import is_keyed, keyed_owner, readers_by_name
from oncestream.operators import step_operator
from oncestream.queries import all_columns, keys_of, made_of, sources_of, steps_ahead
from oncestream.values import places_in


class Wiring:
    """What is told of a graph; each thing is found out when it is first asked for, and kept."""

    def __init__(self, graph):
        self.graph = graph
        self.steps = dict(graph[0])
        self.sources = sources_of(graph[0])
        self._many = dict(graph[1])
        self._readers, self._columns = {}, {}
        # By the names of steps: the pairs (task, side) of all that send to each task, operators, and where rows go.
        self._senders, self._operators, self._ways = {}, {}, {}
        # By tasks: the channels that lead to each and those that leave it; by channels: which input each is.
        self._inputs, self._outputs, self._numbers = {}, {}, {}
        # All moves, ascending, and their numbers, by tasks that send and by channels; those of a task's inputs.
        self._moves, self._places, self._numbered = [], {}, {}

    def tasks_at(self, name):
        """The tasks of the step with this name."""
        return [(name, number) for number in range(self._many[name])]

    def tasks(self):
        """All tasks, in the order of the steps."""
        return [task for name in self.steps for task in self.tasks_at(name)]

    def source_tasks(self):
        """The tasks of all sources, in the order of the steps."""
        return [task for name in self.sources for task in self.tasks_at(name)]

    def columns_of(self, name):
        """The columns of a step."""
        if len(self._columns) == 0:
            self._columns = all_columns(self.graph[0])
        return self._columns[name]

    # Channels. Each is told as one and the same tuple, wherever it is told: so they are quickly compared.

    def _senders_to(self, name):
        if name not in self._senders:
            ahead = steps_ahead(self.graph[0], name)
            self._senders[name] = [(task, side) for side, of in enumerate(ahead) for task in self.tasks_at(of)]
        return self._senders[name]

    def inputs(self, task):
        """The channels that lead to a task."""
        if task not in self._inputs:
            self._inputs[task] = [(sender, side, task) for sender, side in self._senders_to(task[0])]
        return self._inputs[task]

    def input_number(self, channel):
        """Which input of its task a channel is."""
        if channel not in self._numbers:
            for number, other in enumerate(self.inputs(channel[2])):
                self._numbers[other] = number
        return self._numbers[channel]

    def _readers_of(self, name):
        if len(self._readers) == 0:
            self._readers = readers_by_name(self.graph[0])
        return self._readers[name]

    def outputs(self, task):
        """The channels that leave a task."""
        if task not in self._outputs:
            readers = self._readers_of(task[0])
            self._outputs[task] = [
                (task, side, other) for name, sides in readers for other in self.tasks_at(name) for side in sides
            ]
        return self._outputs[task]

    def connect(self):
        """Finds out all channels at once."""
        self._outputs = {task: [] for task in self.tasks()}
        for task in self.tasks():
            for channel in self.inputs(task):
                self._outputs[channel[0]].append(channel)

    # What tasks do.

    def operator(self, name):
        """The operator of the tasks of a step that is no source; there is none of "out", as sinks give nothing."""
        if name not in self._operators:
            step = self.steps[name]
            columns, sides = [self.columns_of(of) for of in made_of(step)], [side for _, side in self._senders_to(name)]
            self._operators[name] = step_operator(step, columns, sides)
        return self._operators[name]

    def _places_read(self, reader, name):
        """Where its keys stand in the rows of a step, for a reader whose tasks get rows by keys; else None."""
        if reader == "out" or not is_keyed(self.steps[reader]):
            return None
        return places_in(self.columns_of(name), keys_of(self.steps[reader]))

    def _ways_from(self, task):
        """For each reader, on each side: the places of its keys, and the channels on which it can get rows."""
        if task not in self._ways:
            found, outputs = [], self.outputs(task)
            for name, sides in self._readers_of(task[0]):
                places = self._places_read(name, task[0])
                for side in sides:
                    there = [channel for channel in outputs if channel[2][0] == name and channel[1] == side]
                    found.append((places, there if places is not None else [there[task[1] % len(there)]]))
            self._ways[task] = found
        return self._ways[task]

    def row_channels(self, task, values):
        """The channels on which a task sends a row with these values."""
        return [
            there[0] if places is None else there[keyed_owner(places, values, len(there))]
            for places, there in self._ways_from(task)
        ]

    # Moves.

    def _order(self):
        """Puts all moves in order, what is sent ahead of what is taken."""
        tasks = sorted(self.tasks())
        channels = [channel for task in tasks for channel in sorted(self.outputs(task))]
        self._moves = [("send", task) for task in tasks] + [("take", channel) for channel in channels]
        self._places = {place: number for number, (_, place) in enumerate(self._moves)}

    def move(self, number):
        """The move with this number among all moves, ascending."""
        return self._moves[number]

    def number_of(self, place):
        """The number of what a task sends, or of what is taken from a channel, among all moves."""
        if len(self._moves) == 0:
            self._order()
        return self._places[place]

    def numbered_inputs(self, task):
        """The pairs (number of the taking, channel) of the channels that lead to a task."""
        if task not in self._numbered:
            self._numbered[task] = [(self.number_of(channel), channel) for channel in self.inputs(task)]
        return self._numbered[task]
