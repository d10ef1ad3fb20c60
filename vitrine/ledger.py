"""What a house keeps, and the deeds by which it came to be so."""

from vitrine.errors import NoDeed


class Ledger:
    """Values by keys (part, name), with deeds that can be undone and done again.

    A deed is a tuple of steps (key, before, after), where None stands for what is not there. All values are
    numbers, texts and tuples, so that two ledgers may share them.
    """

    def __init__(self, start):
        self.kept = dict(start)
        self.done = []
        self.undone = []

    def value_of(self, part, name):
        """What is kept under the name in that part, or None."""
        return self.kept.get((part, name))

    def entries(self, part):
        """The pairs (name, value) of that part, in order of names."""
        return sorted([(key[1], value) for key, value in self.kept.items() if key[0] == part])

    def write(self, key, value):
        """Keeps a value, or none more where it is None."""
        if value is not None:
            self.kept[key] = value
        elif key in self.kept:
            del self.kept[key]

    def enter(self, wanted):
        """Does a deed, told as a dict from keys to values; what was undone can't be done again from here on."""
        self.done.append(tuple([(key, self.kept.get(key), value) for key, value in wanted.items()]))
        self.undone.clear()
        for key, value in wanted.items():
            self.write(key, value)

    def undo(self):
        """Takes back the last deed."""
        if not self.done:
            raise NoDeed("there is nothing to undo")
        deed = self.done.pop()
        self.undone.append(deed)
        for key, before, after in deed:
            self.write(key, before)

    def redo(self):
        """Does again what was undone last."""
        if not self.undone:
            raise NoDeed("there is nothing to do again")
        deed = self.undone.pop()
        self.done.append(deed)
        for key, before, after in deed:
            self.write(key, after)

    def forget(self):
        """Nothing can be undone or done again from here on."""
        self.done.clear()
        self.undone.clear()

    def twin(self):
        """Another ledger that is as this one is."""
        other = Ledger(self.kept)
        other.done = list(self.done)
        other.undone = list(self.undone)
        return other
