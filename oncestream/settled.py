"""What a world has told outside, and what the plain meaning tells of as much of its input."""

from oncestream.bags import bag_of, taken, unlike
from oncestream.known import KnownLog
from oncestream.meaning import all_late, rows_with_lots
from oncestream.outside import committed, last_of
from oncestream.queries import sources_of
from oncestream.rewritings import unplanned


class Meant:
    """What a query gives for an input: found out anew only when another input is asked."""

    def __init__(self, query):
        self._query = query
        self._fed, self._rows, self._bag = None, [], {}

    def _ask(self, fed):
        if fed != self._fed:
            self._rows = rows_with_lots(self._query, fed)
            self._fed, self._bag = fed, bag_of([row for row, _ in self._rows])

    def bag(self, fed):
        """The bag of the rows; it is not to be changed."""
        self._ask(fed)
        return self._bag

    def lots(self, fed, row):
        """The lots of all rows that are this row."""
        self._ask(fed)
        return [lot for other, lot in self._rows if other == row]


class Settled:
    """Worlds of one plan, held against its plain meaning."""

    def __init__(self, plan):
        self._sources = sources_of(plan)
        self._logs = {}
        # What comes of two inputs is asked in turn: of all that the logs hold, and of as much as is told outside.
        query = unplanned(plan)
        self._due, self._told = Meant(query), Meant(query)

    def _log(self, world, pair):
        """The log of a part, by the pair (source, part)."""
        log = world["logs"][pair]
        if pair not in self._logs:
            self._logs[pair] = KnownLog(log)
        self._logs[pair].follow(log)
        return self._logs[pair]

    def _cut_at(self, world, places):
        """The input up to these places."""
        fed = {}
        for name in self._sources:
            parts = sorted([pair for pair in world["logs"] if pair[0] == name])
            fed[name] = tuple([self._log(world, pair).entries(places[pair]) for pair in parts])
        return fed

    def whole_input(self, world):
        """The input that the logs hold."""
        return self._cut_at(world, {pair: self._log(world, pair).many() for pair in world["logs"]})

    def _told_input(self, world):
        """The input up to the places of the last number that is told outside."""
        last = last_of(world["outside"])
        for n, pairs in world["cuts"]:
            if n == last:
                return self._cut_at(world, dict(pairs))
        return self._cut_at(world, {pair: 0 for pair in world["logs"]})

    def lots(self, world, row):
        """The lots of a row that is told outside, [] if it is not."""
        return self._told.lots(self._told_input(world), row) if row in committed(world["outside"], "out") else []

    def due(self, world):
        """The bag of what all the input would tell already, and is not told."""
        return taken(self._due.bag(self.whole_input(world)), committed(world["outside"], "out"))

    def fault(self, world):
        """None if just what is due is told outside, else the first fault."""
        fed = self._told_input(world)
        late = all_late(fed)
        for name in self._sources:
            rows = [fed[name][part][place][1:] for source, part, place in late if source == name]
            if committed(world["outside"], name) != bag_of(rows):
                return ("late", name)
        found = unlike(committed(world["outside"], "out"), self._told.bag(fed))
        return None if found is None else ("out",) + found
