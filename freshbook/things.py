"""A thing as its keeper has it: value and version, the notes of lendings, the change that waits."""

from freshbook.times import held_until, quiet_until


class Thing:
    def __init__(self, keeper, value):
        self.keeper = keeper
        self.value = value
        self.version = 0
        self.notes = {}
        # Apart from the notes, since no desk gives it back and it outlasts them when the keeper is stopped.
        self.quiet = None
        # None where no change waits, since nought is a value like any other.
        self.waiting = None

    def lend(self, desk, until):
        self.notes[desk] = until

    def take_back(self, desk):
        self.notes.pop(desk, None)

    def come_up(self, clock, length, bound):
        self.quiet = quiet_until(clock, length, bound)

    def go_down(self):
        self.notes = {}
        self.waiting = None

    def put_up(self, value):
        if self.waiting is not None:
            return False
        self.waiting = value
        return True

    def attempt(self, clock):
        if self.waiting is None:
            return "nothing"
        until = held_until(clock, self.noted_untils())
        if until is not None:
            return ("waits", until)
        self.take_change()
        return ("changed", self.version)

    def noted_untils(self):
        untils = list(self.notes.values())
        if self.quiet is not None:
            untils.append(self.quiet)
        return untils

    def take_change(self):
        self.value = self.waiting
        self.version = self.version + 1
        self.waiting = None
        self.notes = {}
        self.quiet = None


def attempts(thing, clocks):
    return [thing.attempt(clock) for clock in clocks]
