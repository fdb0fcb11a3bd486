"""The desks and things of a story, and what is done with them."""

from freshbook.errors import NoAnswer, NoClock, NoDesk, NoThing, Stopped
from freshbook.things import Thing
from freshbook.times import is_fresh, within


class Copy:
    def __init__(self, value, version, until):
        self.value = value
        self.version = version
        self.until = until


class Desk:
    def __init__(self):
        self.offset = 0
        self.stopped = False
        self.copies = {}


class Yard:
    def __init__(self, plan, told):
        self.length = plan[1]
        self.bound = plan[2]
        self.true_time = 0
        self.desks = [Desk() for number in range(plan[0])]
        self.things = {}
        for name, keeper, value in told:
            self.things[name] = Thing(keeper, value)

    def pass_time(self, many):
        self.true_time = self.true_time + many
        return self.true_time

    def shift_clock(self, number, offset):
        desk = self.find_desk(number)
        if not within(offset, self.bound):
            raise NoClock("the offset is beyond the bound")
        desk.offset = offset
        return True

    def read_thing(self, number, name):
        self.check_asker(number, name)
        thing = self.things[name]
        if thing.keeper == number:
            return ("own", thing.value, thing.version)
        held = self.desks[number].copies.get(name)
        if held is not None and is_fresh(self.clock_of(number), held.until, self.bound):
            return ("fresh", held.value, held.version)
        self.check_keeper(thing)
        if thing.waiting is not None:
            return "not now"
        self.lend_copy(number, name)
        return ("lent", thing.value, thing.version)

    def lend_copy(self, number, name):
        thing = self.things[name]
        until = self.clock_of(thing.keeper) + self.length
        thing.lend(number, until)
        self.desks[number].copies[name] = Copy(thing.value, thing.version, until)

    def ask_change(self, number, name, value):
        self.check_asker(number, name)
        thing = self.things[name]
        self.check_keeper(thing)
        self.drop_copy(number, name)
        if not thing.put_up(value):
            return "not now"
        return thing.attempt(self.clock_of(thing.keeper))

    def try_change(self, name):
        thing = self.find_thing(name)
        self.check_keeper(thing)
        return thing.attempt(self.clock_of(thing.keeper))

    def give_back(self, number, name):
        self.check_asker(number, name)
        had_one = name in self.desks[number].copies
        self.drop_copy(number, name)
        return had_one

    def drop_copy(self, number, name):
        self.desks[number].copies.pop(name, None)
        # Not asked whether the keeper is up: one that is stopped has lost this note already.
        self.things[name].take_back(number)

    def stop_desk(self, number):
        desk = self.find_desk(number)
        if desk.stopped:
            return False
        desk.stopped = True
        desk.copies = {}
        for thing in self.kept_by(number):
            thing.go_down()
        return True

    def wake_desk(self, number):
        desk = self.find_desk(number)
        if not desk.stopped:
            return False
        desk.stopped = False
        for thing in self.kept_by(number):
            thing.come_up(self.clock_of(number), self.length, self.bound)
        return True

    def find_desk(self, number):
        # Asked ahead of the index, which would take a number below nought from the end.
        if not 0 <= number < len(self.desks):
            raise NoDesk("there is no such desk")
        return self.desks[number]

    def find_thing(self, name):
        if name not in self.things:
            raise NoThing("there is no such thing")
        return self.things[name]

    def check_asker(self, number, name):
        desk = self.find_desk(number)
        self.find_thing(name)
        if desk.stopped:
            raise Stopped("the desk is stopped")

    def check_keeper(self, thing):
        if self.desks[thing.keeper].stopped:
            raise NoAnswer("the keeper is stopped")

    def clock_of(self, number):
        return self.true_time + self.desks[number].offset

    def kept_by(self, number):
        return [thing for thing in self.things.values() if thing.keeper == number]

    def all_values(self):
        return [(name, self.things[name].value, self.things[name].version) for name in sorted(self.things)]

    def all_copies(self):
        return [copies_by_name(desk.copies) for desk in self.desks]


def copies_by_name(copies):
    return [(name, copies[name].value, copies[name].version, copies[name].until) for name in sorted(copies)]
