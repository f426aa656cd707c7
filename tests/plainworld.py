"""Worlds told once more: one object that changes, with lists of entries, of kept states and of records, not texts."""

import copy

from oncestream.control import again, back, begin, first, hear, renewed
from oncestream.graphs import graph
from oncestream.groups import begun_of, fresh_kept, moved
from oncestream.outside import fresh_outside, heard
from oncestream.queries import sources_of
from oncestream.seals import sealed, word_text
from tests.plainnet import PlainNet


def text_of(words):
    return "".join(sealed(word_text(word)) for word in words)


class PlainWorld:
    def __init__(self, plan, parts, workers, room):
        self.plan, self.parts, self.workers, self.room = plan, dict(parts), workers, room
        self.entries = {(name, part): [] for name in sources_of(plan) for part in range(parts[name])}
        self.torn_logs, self.torn_shelf = {part: "" for part in self.entries}, ""
        self.shelf, self.disk, self.cuts, self.outside = [], [], [], fresh_outside()
        self.control, self.disk, letters = first(plan, workers)
        self.air = list(letters)
        self.new_net()

    def world(self):
        logs = {part: text_of(self.entries[part]) + self.torn_logs[part] for part in self.entries}
        return {"plan": self.plan, "logs": logs, "credits": self.room, "workers": self.workers, "net": self.net.net(), "shelf": text_of(self.shelf) + self.torn_shelf,
                "disk": text_of(self.disk), "control": self.control, "outside": self.outside, "air": tuple(self.air), "cuts": tuple(self.cuts)}

    def new_net(self):
        control, last = self.control, self.control["last"]
        self.workers = control["workers"]
        if last == 0:
            kept = fresh_kept(self.plan, self.workers, self.parts)
        else:
            kept = {}
            for epoch, n, task, state, mark in self.shelf:
                if (epoch, n) == (control["last_epoch"], last):
                    kept.setdefault(task, (state, mark))
            kept = moved(self.plan, control["last_workers"], self.workers, kept)
        self.net = PlainNet(graph(self.plan, dict(self.workers)), self.room, begun_of(self.plan, kept))

    def sources(self):
        return [task for task in self.net.tasks if task[0] in self.parts]

    def ruled(self, triple):
        self.control, records, letters = triple
        self.disk += records
        self.air += letters

    def keep(self, kept, letter):
        if kept is not None:
            n, task, state, mark = kept
            epoch = self.control["epoch"]
            self.shelf.append((epoch, n, task, state, mark))
            self.torn_shelf = ""
            self.air.append(("kept", epoch, n, task))
        if letter is not None:
            self.air.append(letter)

    def after(self, event):
        epoch = self.control["epoch"]
        if event[0] == "torn":
            self.torn(event[1], event[2])
        else:
            self.act(event)
        control = self.control
        if control["last"] > len(self.cuts):
            places = {(task[0], part): place for elder, n, task, state, _ in self.shelf if (elder, n) == (control["last_epoch"], control["last"]) and task[0] in self.parts
                      for part, place, _ in state}
            self.cuts.append((control["last"], tuple(sorted(places.items()))))
            self.shelf = [told for told in self.shelf if told[:2] >= (control["last_epoch"], control["last"])]
            self.torn_shelf = ""
        if control["epoch"] > epoch:
            self.new_net()

    def torn(self, event, keep):
        """A copy does the event: what it writes is what the first signs are taken of."""
        if event[0] == "feed":
            self.torn_logs[event[1:3]] = ""
            text = text_of([event[3]])
            if keep >= len(text):
                self.entries[event[1:3]].append(event[3])
            else:
                self.torn_logs[event[1:3]] = text[:keep]
            return
        other = copy.deepcopy(self)
        other.act(event)
        self.torn_shelf = ""
        for mine, its, is_shelf in ((self.shelf, other.shelf, True), (self.disk, other.disk, False)):
            for word in its[len(mine):]:
                text = text_of([word])
                if keep >= len(text):
                    mine.append(word)
                elif is_shelf:
                    self.torn_shelf = text[:keep]
        if event[0] == "hear" and self.air:
            self.air.pop(event[1] % len(self.air))
        self.act(("stop",))

    def act(self, event):
        word = event[0]
        if word == "feed":
            self.entries[event[1:3]].append(event[3])
            self.torn_logs[event[1:3]] = ""
        elif word in ("read", "move"):
            self.step(word, event[1])
        elif word == "begin":
            self.ruled(begin(self.control))
        elif word == "again":
            self.again()
        elif word in ("hear", "lose", "double"):
            self.letter(word, event[1])
        elif word == "fall":
            self.ruled(renewed(self.control, self.control["workers"]))
        elif word == "workers":
            self.ruled(renewed(self.control, event[1]))
        else:
            self.ruled(back(self.plan, self.workers, text_of(self.disk)))

    def step(self, word, k):
        if word == "move":
            can = self.net.moves()
            if can:
                what, place = can[k % len(can)]
                if what == "send":
                    self.net.send(place)
                else:
                    self.keep(*self.net.take(place, self.control["epoch"]))
            return
        can = [(task, part, self.entries[task[0], part][place]) for task in self.sources() if not self.net.outbox[task]
               for part, place, _ in self.net.state[task][0] if place < len(self.entries[task[0], part])]
        if can:
            self.net.read(*can[k % len(can)])

    def again(self):
        self.air += again(self.control)
        here = (self.control["epoch"], self.control["last"] + 1)
        if self.control["phase"] == "barrier":
            there = [told[2] for told in self.shelf if told[:2] == here]
            self.air += [("kept",) + here + (task,) for task in self.net.tasks if task in there]
        for task in self.net.tasks:
            if task[0] in self.parts or task[0] == "out":
                letter = self.net.state[task][-1]
                self.air += [] if letter is None else [letter]

    def letter(self, word, k):
        if not self.air:
            return
        letter = self.air[k % len(self.air)]
        if word == "double":
            self.air.append(letter)
            return
        self.air.pop(k % len(self.air))
        if word == "lose":
            return
        if letter[0] in ("hold", "commit", "drop"):
            self.outside, answers = heard(self.outside, letter)
            self.air += answers
        elif letter[0] != "begin":
            self.ruled(hear(self.control, letter))
        else:
            self.asked(letter)

    def asked(self, letter):
        _, epoch, n, task = letter
        has_told = n <= self.control["last"] or (epoch, n, task) in [told[:3] for told in self.shelf]
        if epoch == self.control["epoch"] and not has_told:
            if self.net.outbox[task]:
                self.air.append(letter)
            else:
                self.keep(*self.net.stop(task, epoch, n))
