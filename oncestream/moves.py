"""A net that is run: what can be done in it is found out anew only where something has changed."""

from oncestream.barriers import is_held
from oncestream.nets import can_move, own_net, read_on, send_on, stop_on, take_on


class RunNet:
    """A net as it stands, by a wiring of its graph."""

    def __init__(self, wiring, net):
        self._wiring = wiring
        self._net = net
        # Whether the net is this one's alone; one that somebody else has is not changed.
        self._is_own = False
        # The moves that can be made, by their numbers: their places among all moves of the graph, ascending. None as
        # long as only one was asked for: all are put in order for those who go on asking.
        self._ready = None
        self._has_asked = False

    def tasks(self):
        """The fields of all tasks, which are not to be changed."""
        return self._net["tasks"]

    def stands(self):
        """The net itself, which stays as it is."""
        self._is_own = False
        return self._net

    def _own(self):
        """The net, to be changed."""
        if not self._is_own:
            self._net, self._is_own = own_net(self._net), True
        return self._net

    # What can be done.

    def _order(self):
        self._ready = {}
        for task in self._net["tasks"]:
            self._look_at_send(task)
            self._look_at_takes(task)

    def _set(self, number, is_ready):
        if is_ready:
            self._ready[number] = True
        elif number in self._ready:
            del self._ready[number]

    def _look_at_send(self, task):
        """Finds out whether a task may send."""
        net = self._net
        outbox = net["tasks"][task]["outbox"]
        is_free = len(outbox) > 0 and len(net["channels"][outbox[0][0]]) < net["credits"]
        self._set(self._wiring.number_of(task), is_free)

    def _look_at_take(self, channel):
        """Finds out whether a channel may be taken from."""
        fields = self._net["tasks"][channel[2]]
        is_free = len(self._net["channels"][channel]) > 0 and len(fields["outbox"]) == 0
        self._set(self._wiring.number_of(channel), is_free and not is_held(fields["waiting"], channel))

    def _look_at_takes(self, task):
        """Finds out which channels a task may take from."""
        fields, channels = self._net["tasks"][task], self._net["channels"]
        is_empty, waiting = len(fields["outbox"]) == 0, fields["waiting"]
        for number, channel in self._wiring.numbered_inputs(task):
            self._set(number, is_empty and len(channels[channel]) > 0 and not is_held(waiting, channel))

    def first(self):
        """The first move that can be made, None if there is none."""
        if self._ready is None:
            self._order()
        return self._wiring.move(min(self._ready)) if len(self._ready) > 0 else None

    def picked(self, k):
        """The move with this number of those that can be made, counted round and round; None if there is none."""
        if self._ready is None and not self._has_asked:
            self._has_asked = True
            can = can_move(self._net)
            return can[k % len(can)] if len(can) > 0 else None
        if self._ready is None:
            self._order()
        many = len(self._ready)
        return self._wiring.move(sorted(self._ready)[k % many]) if many > 0 else None

    # What is done.

    def move(self, move, epoch):
        """Makes a move that can be made; returns what is kept then, and the letter to the outside."""
        word, place = move
        if word == "send":
            self._send(place)
            return None, None
        return self._take(place, epoch)

    def _send(self, task):
        channel = send_on(self._own(), task)
        if self._ready is not None:
            self._look_at_send(task)
            self._look_at_take(channel)
            if len(self._net["tasks"][task]["outbox"]) == 0:
                self._look_at_takes(task)

    def _take(self, channel, epoch):
        net, (sender, _, task) = self._own(), channel
        word = net["channels"][channel][0][0]
        kept, letter = take_on(self._wiring, net, channel, epoch)
        if self._ready is not None:
            self._look_at_send(sender)
            if word == "barrier" or len(net["tasks"][task]["outbox"]) > 0:
                self._look_at_send(task)
                self._look_at_takes(task)
            else:
                self._look_at_take(channel)
        return kept, letter

    def read(self, task, part, entry):
        """Lets a source task without anything to send read the next entry of a part."""
        read_on(self._wiring, self._own(), task, part, entry)
        if self._ready is not None:
            self._look_at_send(task)

    def stop(self, task, epoch, n):
        """Lets a source task without anything to send put a barrier in; returns what is kept then, and the letter."""
        told = stop_on(self._wiring, self._own(), task, epoch, n)
        if self._ready is not None:
            self._look_at_send(task)
        return told
