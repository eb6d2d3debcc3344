"""Which names are seen where, as a process is read.

A name is seen from its declaration on to the end of the braces around it, so
it is settled while reading which declaration a name belongs to. Each
declaration and each parameter of a process has a slot of its own, and a
process that runs keeps what it made under that slot.
"""

CELL = "cell"
CHANNEL = "channel"


class Scope:
    def __init__(self):
        self.seen = {}
        self.hidden = []
        self.slots = 0

    def declare(self, name, kind):
        slot = self.slots
        self.slots += 1
        self.hidden.append((name, self.seen.get(name)))
        self.seen[name] = (kind, slot)
        return slot

    def mark(self):
        return len(self.hidden)

    # What was hidden is brought back one by one: a copy of all names for each
    # pair of braces would be far too much for a long text.
    def leave(self, mark):
        while len(self.hidden) > mark:
            last = self.hidden.pop()
            if last[1] is None:
                self.seen.pop(last[0])
            else:
                self.seen[last[0]] = last[1]

    def slot_of(self, name, kind):
        found = self.seen.get(name)
        if found is None or found[0] != kind:
            return None
        return found[1]
