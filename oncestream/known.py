"""Texts of a world of which it is known what they tell, while the world is run: its logs and its shelf.

In the texts of a world all seals were written whole, but perhaps the last one, of which a torn end is left: so the
numbers ahead of them tell where they stand, and no check is reckoned again.
"""

from oncestream.seals import read_word, sealed, seals_by_length, word_text


class KnownSeals:
    """A text of seals as it stands: the text itself, and its whole seals, each with what was written into it."""

    def __init__(self, text):
        self.text = text
        self.pairs = seals_by_length(text, 0)
        self._whole = sum([len(seal) for seal, _ in self.pairs])

    def follow(self, text):
        """Makes it another text; what stands whole in both is not read again, if they begin alike."""
        if not text.startswith(self.text[:self._whole]):
            self.pairs, self._whole = [], 0
        more = seals_by_length(text, self._whole)
        self.text = text
        self.pairs.extend(more)
        self._whole += sum([len(seal) for seal, _ in more])

    def mend(self):
        """Cuts the torn end away."""
        self.text = self.text[:self._whole]

    def write(self, told, keep):
        """Writes a text, sealed, or its first signs alone, so many (None for all); returns whether it stands whole."""
        seal = sealed(told)
        self.mend()
        if keep is not None and keep < len(seal):
            self.text = self.text + seal[:keep]
            return False
        self.text = self.text + seal
        self._whole += len(seal)
        self.pairs.append((seal, told))
        return True

    def leave(self, pairs):
        """Leaves these whole seals alone, and no torn end."""
        self.text = "".join([seal for seal, _ in pairs])
        self.pairs = pairs
        self._whole = len(self.text)


class KnownLog:
    """A log as it stands; each entry is read when it is first asked for."""

    def __init__(self, text):
        self._seals = KnownSeals(text)
        self._entries = {}

    def stands(self):
        """The log itself."""
        return self._seals.text

    def many(self):
        """How many entries there are."""
        return len(self._seals.pairs)

    def entry(self, place):
        """The entry with this number."""
        told = self._seals.pairs[place][1]
        if told not in self._entries:
            self._entries[told] = read_word(told)
        return self._entries[told]

    def entries(self, many):
        """The first entries, so many."""
        return tuple([self.entry(place) for place in range(many)])

    def follow(self, text):
        """Makes it another log."""
        if text != self._seals.text:
            self._seals.follow(text)

    def write(self, entry, keep):
        """Writes an entry, or its first signs alone, so many; None stands for all."""
        told = word_text(entry)
        self._entries[told] = entry
        self._seals.write(told, keep)


def _numbers_of(told):
    """The epoch and the number under which something is kept."""
    epoch, n, _ = told.split(";", 2)
    return int(epoch[2:]), int(n[1:])


def _task_of(told):
    """The task that has kept something."""
    _, _, behind = told.split(";", 2)
    colon = behind.index(":")
    name = behind[colon + 1:colon + 1 + int(behind[2:colon])]
    return (name, int(behind[colon + 2 + len(name):behind.index(";")]))


class KnownShelf:
    """A shelf as it stands; what was kept is read when it is first asked for."""

    def __init__(self, text):
        self._seals = KnownSeals(text)
        # By epochs and numbers: what each task kept first, as a text. And by such texts: the pair (state, mark).
        self._told, self._pairs = {}, {}

    def stands(self):
        """The shelf itself."""
        return self._seals.text

    def _told_under(self, epoch, n):
        """What each task kept first under an epoch and a number, as texts by tasks."""
        if (epoch, n) not in self._told:
            found, begin = {}, f"(i{epoch};i{n};"
            for _, told in self._seals.pairs:
                if told.startswith(begin):
                    found.setdefault(_task_of(told), told)
            self._told[(epoch, n)] = found
        return self._told[(epoch, n)]

    def _pair_of(self, told):
        """The state and the mark that a text tells."""
        if told not in self._pairs:
            self._pairs[told] = read_word(told)[3:]
        return self._pairs[told]

    def has(self, epoch, n, task):
        """Whether a task has kept something under an epoch and a number."""
        return task in self._told_under(epoch, n)

    def states(self, epoch, n):
        """The pairs (state, mark) that the tasks kept first under an epoch and a number, by these tasks."""
        found = self._told_under(epoch, n)
        return {task: self._pair_of(found[task]) for task in found}

    def put_down(self, epoch, n, kept, keep):
        """Puts down what a task keeps, (task, state, mark), or its first signs alone, so many; None stands for all."""
        task, state, mark = kept
        told, found = word_text((epoch, n, task, state, mark)), self._told_under(epoch, n)
        if self._seals.write(told, keep) and task not in found:
            found[task] = told
            self._pairs[told] = (state, mark)

    def mend(self):
        """Cuts the torn end away."""
        self._seals.mend()

    def forget(self, epoch, n):
        """Takes away what is elder than this epoch and number, and the torn end."""
        self._seals.leave([pair for pair in self._seals.pairs if _numbers_of(pair[1]) >= (epoch, n)])
        self._told = {key: self._told[key] for key in self._told if key >= (epoch, n)}
