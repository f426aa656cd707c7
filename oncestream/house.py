"""A house: a world, and the deeds that have led to it, which can be taken back and done again."""

from oncestream.acts import happen, run_calmly
from oncestream.bags import row_rank
from oncestream.errors import BadScript, NothingDone
from oncestream.queries import sources_of
from oncestream.running import Run
from oncestream.settled import Settled
from oncestream.world import is_event, late_outside, new_world, places_read, told_outside


def _listed(bag):
    """The ascending pairs (row, how often) of a bag."""
    return [(row, bag[row]) for row in sorted(list(bag), key=row_rank)]


class House:
    """A house over a world of this query, with so many parts of each source, these workers, and so much room."""

    def __init__(self, query, parts, workers, room):
        self._begun = (query, {name: parts[name] for name in parts}, workers, room)
        # All that was done and not done anew otherwise: the worlds, of which the first one had no deed yet, and the
        # deeds between them. Of the deeds so many stand done; the others can be done again.
        self._worlds = [new_world(query, parts, workers, room)]
        self._all = []
        self._done = 0
        # The world that stands, as it is run; None at first, and from when something is taken back until the next deed.
        self._run = None
        self._settled = Settled(query)

    def world(self):
        """The world behind all deeds that stand done."""
        return self._worlds[self._done]

    def deeds(self):
        """The deeds that stand done."""
        return self._all[:self._done]

    def do(self, deed):
        """Does a deed, and returns how many stand done then; raises BadScript if it is none."""
        if deed != ("calm",) and not is_event(self.world(), deed):
            raise BadScript(0)
        if self._run is None:
            self._run = Run(self.world())
        if deed == ("calm",):
            run_calmly(self._run)
        else:
            happen(self._run, deed)
        del self._worlds[self._done + 1:]
        del self._all[self._done:]
        self._worlds.append(self._run.world())
        self._all.append(deed)
        self._done += 1
        return self._done

    def undo(self):
        """Takes the last deed back, and returns how many stand done then; raises NothingDone if there is none."""
        if self._done == 0:
            raise NothingDone()
        self._done -= 1
        self._run = None
        return self._done

    def redo(self):
        """Does again what was taken back last, and returns how many stand done then; raises NothingDone likewise."""
        if self._done == len(self._all):
            raise NothingDone()
        self._done += 1
        return self._done

    def twin(self):
        """A house that stands alike, and goes its own way."""
        query, parts, workers, room = self._begun
        other = House(query, parts, workers, room)
        other._worlds, other._all, other._done = list(self._worlds), list(self._all), self._done
        return other

    def outside(self):
        """The ascending pairs (row, how often) of what the query has given out."""
        return _listed(told_outside(self.world()))

    def due(self):
        """The ascending pairs (row, how often) of what is still to be told."""
        return _listed(self._settled.due(self.world()))

    def late(self):
        """The pairs ((source, row), how often) of the late rows that are told."""
        here = self.world()
        names = sorted(sources_of(here["plan"]))
        return [((name, row), many) for name in names for row, many in _listed(late_outside(here, name))]

    def tasks(self):
        """The list of (name, number, mark, how many things it has to send, how many lie on its inputs)."""
        net, found = self.world()["net"], []
        for task, fields in net["tasks"].items():
            gone = sum([len(net["channels"][channel]) for channel in fields["marks"]])
            found.append(task + (fields["mark"], len(fields["outbox"]), gone))
        return found

    def stand(self):
        """Where the world stands: (epoch, last number, phase, letters in the air, entries read)."""
        here = self.world()
        control = here["control"]
        read = sum([place for _, place in places_read(here)])
        return (control["epoch"], control["last"], control["phase"], len(here["air"]), read)

    def why(self, row):
        """The lots of a row that is told outside, [] if it is not."""
        return self._settled.lots(self.world(), row)

    def judge(self):
        """None if just what is due is told outside, else the first fault."""
        return self._settled.fault(self.world())
