"""A world that is run: what is found out of it on the way is kept, so that nothing is read or built twice."""

from oncestream.control import Ruler, records_text
from oncestream.graphs import graph
from oncestream.groups import begun_of, fresh_by, moved_by
from oncestream.known import KnownLog, KnownShelf
from oncestream.moves import RunNet
from oncestream.nets import net_by
from oncestream.queries import sources_of
from oncestream.wiring import Wiring


def parts_of_sources(plan, logs):
    """The dict from each source to how many parts it has."""
    return {name: len([pair for pair in logs if pair[0] == name]) for name in sources_of(plan)}


def places_of_net(tasks, fields):
    """How far these source tasks have read, in ascending pairs, by the fields of all tasks."""
    read = [((task[0], part), place) for task in tasks for part, place, _ in fields[task]["state"][0]]
    return tuple(sorted(read))


class Run:
    """A world as it stands, and what is known of it."""

    def __init__(self, world):
        # The fields of the world; those of the air and of the net are elder ones while the world is run.
        self.fields = {**world}
        self.air = list(world["air"])
        self.ruler = Ruler(world["plan"])
        self._logs, self._shelf, self._net = {}, None, None
        # By workers: the wirings of nets, and the nets that begin behind the last complete number.
        self._wirings, self._begun = {}, {}

    def world(self):
        """The world itself."""
        if self._net is not None:
            self.fields["net"] = self._net.stands()
        return {**self.fields, "air": tuple(self.air)}

    # What is known of it.

    def log(self, pair):
        """The log of a part, by the pair (source, part)."""
        if pair not in self._logs:
            self._logs[pair] = KnownLog(self.fields["logs"][pair])
        return self._logs[pair]

    def shelf(self):
        """The shelf."""
        if self._shelf is None:
            self._shelf = KnownShelf(self.fields["shelf"])
        return self._shelf

    def _wiring_of(self, workers):
        if workers not in self._wirings:
            self._wirings[workers] = Wiring(graph(self.fields["plan"], dict(workers)))
        return self._wirings[workers]

    def wiring(self):
        """The wiring of the net."""
        return self._wiring_of(self.fields["workers"])

    def net(self):
        """The net, which is run."""
        if self._net is None:
            self._net = RunNet(self.wiring(), self.fields["net"])
        return self._net

    def unread(self):
        """The triples (task, part, place) of all entries that a source task can read next."""
        tasks, found = self.net().tasks(), []
        for task in self.wiring().source_tasks():
            fields = tasks[task]
            if len(fields["outbox"]) == 0:
                for part, place, _ in fields["state"][0]:
                    if place < self.log((task[0], part)).many():
                        found.append((task, part, place))
        return found

    def places(self):
        """How far the source tasks have read, in ascending pairs."""
        return places_of_net(self.wiring().source_tasks(), self.net().tasks())

    def is_asked(self, letter):
        """Whether a source task still has to stop by this letter of control."""
        _, epoch, n, task = letter
        control = self.fields["control"]
        return epoch == control["epoch"] and n > control["last"] and not self.shelf().has(epoch, n, task)

    def goes_back(self, letter):
        """Whether a letter of control to a source task would only go back to the end of the air."""
        return self.is_asked(letter) and len(self.net().tasks()[letter[3]]["outbox"]) > 0

    # What comes of it.

    def feed(self, pair, entry, keep):
        """Writes an entry to a log, or its first signs alone, so many; None stands for all."""
        log = self.log(pair)
        log.write(entry, keep)
        self.fields["logs"] = {**self.fields["logs"], pair: log.stands()}

    def do(self, deed):
        """Does what a deed tells."""
        fields = self.fields
        if "heard" in deed:
            del self.air[deed["heard"]]
        if "kept" in deed:
            n, task, state, mark = deed["kept"]
            epoch = fields["control"]["epoch"]
            self.shelf().put_down(epoch, n, (task, state, mark), None)
            fields["shelf"] = self.shelf().stands()
            self.air.append(("kept", epoch, n, task))
        self.air.extend(deed.get("letters", ()))
        if "outside" in deed:
            fields["outside"] = deed["outside"]
        if "control" in deed:
            elder, fields["control"] = fields["control"], deed["control"]
            fields["disk"] = fields["disk"] + records_text(deed["records"])
            self._settle(elder["epoch"])

    def tear(self, deed, keep):
        """Does of a deed only that the first signs of what is written come to stand; then control comes back."""
        fields, shelf = self.fields, self.shelf()
        control = fields["control"]
        # No event writes both to the shelf and to the disk: so each gets the first signs of its own.
        shelf.mend()
        if "kept" in deed:
            n, task, state, mark = deed["kept"]
            shelf.put_down(control["epoch"], n, (task, state, mark), keep)
        text = records_text(deed.get("records", []))
        if keep >= len(text):
            control, fields["disk"] = deed.get("control", control), fields["disk"] + text
        fields["shelf"] = shelf.stands()
        if "heard" in deed:
            del self.air[deed["heard"]]
        self.do(ruled(self.ruler.returned(control)))

    def _settle(self, epoch):
        """Behind what control did: a number that has become complete is told, and behind this epoch the net is new."""
        fields = self.fields
        control, cuts = fields["control"], fields["cuts"]
        if control["last"] > len(cuts):
            fields["cuts"] = cuts + ((control["last"], self._last_places()),)
            self.shelf().forget(control["last_epoch"], control["last"])
            fields["shelf"] = self.shelf().stands()
            self._begun = {}
        if control["epoch"] != epoch:
            self._begin_net()

    def _kept_last(self):
        """What the tasks kept under the last complete number."""
        control = self.fields["control"]
        return self.shelf().states(control["last_epoch"], control["last"])

    def _last_places(self):
        """How far the sources had read when they kept the last complete number, in ascending pairs."""
        kept, names = self._kept_last(), sources_of(self.fields["plan"])
        pairs = [((task[0], part), place) for task in kept if task[0] in names for part, place, _ in kept[task][0]]
        return tuple(sorted(pairs))

    def _new_net(self, workers):
        """The net that begins with what was kept under the last complete number."""
        plan, control, wiring = self.fields["plan"], self.fields["control"], self._wiring_of(workers)
        if control["last"] == 0:
            kept = fresh_by(wiring, parts_of_sources(plan, self.fields["logs"]))
        else:
            kept = moved_by(wiring, control["last_workers"], self._kept_last())
        return net_by(wiring, self.fields["credits"], begun_of(plan, kept))

    def _begin_net(self):
        """Lets a new net begin, with the workers that control tells."""
        workers = self.fields["control"]["workers"]
        if workers not in self._begun:
            self._begun[workers] = self._new_net(workers)
        self.fields["workers"], self.fields["net"], self._net = workers, self._begun[workers], None


def ruled(triple):
    """The deed of control that is told by a triple (control, records, letters)."""
    control, records, letters = triple
    return {"control": control, "records": records, "letters": letters}
