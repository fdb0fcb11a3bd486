import unittest

from freshbook.things import Thing, attempts
from freshbook.times import is_fresh, longest_wait

HUGE = 10 ** 100


def state(thing):
    return (thing.value, thing.version)


class MadeTest(unittest.TestCase):
    def test_value_and_version_when_made(self):
        for value in (0, 5, -5, HUGE, -HUGE):
            with self.subTest(value=value):
                self.assertEqual(state(Thing(2, value)), (value, 0))

    def test_nothing_holds_and_nothing_waits_when_made(self):
        thing = Thing(0, 5)
        self.assertEqual(attempts(thing, [-HUGE, 0, HUGE]), ["nothing", "nothing", "nothing"])
        self.assertEqual(state(thing), (5, 0))
        thing.put_up(6)
        self.assertEqual(attempts(thing, [-HUGE]), [("changed", 1)])


class PutUpTest(unittest.TestCase):
    def test_twice(self):
        thing = Thing(0, 5)
        self.assertIs(thing.put_up(6), True)
        self.assertIs(thing.put_up(7), False)
        self.assertEqual(attempts(thing, [0]), [("changed", 1)])
        self.assertEqual(state(thing), (6, 1))

    def test_value_and_version_stay_while_it_waits(self):
        thing = Thing(0, 5)
        thing.put_up(6)
        self.assertEqual(state(thing), (5, 0))

    def test_nought_and_the_like_value_wait_too(self):
        for value in (0, 5, -1):
            with self.subTest(value=value):
                thing = Thing(0, 5)
                self.assertIs(thing.put_up(value), True)
                self.assertIs(thing.put_up(9), False)
                self.assertEqual(attempts(thing, [0, 0]), [("changed", 1), "nothing"])
                self.assertEqual(state(thing), (value, 1))

    def test_again_after_a_change_was_done(self):
        thing = Thing(0, 5)
        for version in range(1, 6):
            self.assertIs(thing.put_up(version * 10), True)
            self.assertEqual(attempts(thing, [0]), [("changed", version)])
            self.assertEqual(state(thing), (version * 10, version))

    def test_still_waits_after_it_was_held_up(self):
        thing = Thing(0, 5)
        thing.lend(1, 10)
        thing.put_up(6)
        attempts(thing, [10])
        self.assertIs(thing.put_up(7), False)
        self.assertEqual(attempts(thing, [11]), [("changed", 1)])
        self.assertEqual(state(thing), (6, 1))


class LendTest(unittest.TestCase):
    def test_ahead_of_at_and_behind_the_until(self):
        for until in (-10, 0, 10, HUGE, -HUGE):
            with self.subTest(until=until):
                thing = Thing(0, 5)
                thing.lend(1, until)
                thing.put_up(6)
                self.assertEqual(
                    attempts(thing, [until - 1, until, until + 1]),
                    [("waits", until), ("waits", until), ("changed", 1)],
                )

    def test_lending_changes_neither_value_nor_version(self):
        thing = Thing(0, 5)
        thing.lend(1, 10)
        self.assertEqual(state(thing), (5, 0))

    def test_later_lending_to_the_same_desk_takes_the_place(self):
        for first, second in ((10, 20), (20, 10), (10, 10), (3, -3)):
            with self.subTest(first=first, second=second):
                thing = Thing(0, 5)
                thing.lend(1, first)
                thing.lend(1, second)
                thing.put_up(6)
                self.assertEqual(attempts(thing, [second, second + 1]), [("waits", second), ("changed", 1)])

    def test_several_desks_the_greatest_until_that_holds(self):
        thing = Thing(0, 5)
        thing.lend(1, 10)
        thing.lend(2, 30)
        thing.lend(3, 20)
        thing.put_up(6)
        self.assertEqual(attempts(thing, [0, 15, 30, 31]), [("waits", 30)] * 3 + [("changed", 1)])

    def test_several_desks_with_like_untils(self):
        thing = Thing(0, 5)
        thing.lend(1, 10)
        thing.lend(2, 10)
        thing.take_back(1)
        thing.put_up(6)
        self.assertEqual(attempts(thing, [10, 11]), [("waits", 10), ("changed", 1)])

    def test_lending_while_a_change_waits_is_noted(self):
        thing = Thing(0, 5)
        thing.put_up(6)
        thing.lend(1, 10)
        self.assertEqual(attempts(thing, [10, 11]), [("waits", 10), ("changed", 1)])

    def test_twenty_desks_and_more(self):
        thing = Thing(0, 5)
        for desk in range(25):
            thing.lend(desk, desk * 10)
        thing.put_up(6)
        for desk in range(24, -1, -1):
            self.assertEqual(attempts(thing, [0]), [("waits", desk * 10)])
            thing.take_back(desk)
        self.assertEqual(attempts(thing, [0]), [("changed", 1)])


class TakeBackTest(unittest.TestCase):
    def test_with_a_note(self):
        thing = Thing(0, 5)
        thing.lend(1, 10)
        thing.lend(2, 20)
        thing.put_up(6)
        thing.take_back(2)
        self.assertEqual(attempts(thing, [0]), [("waits", 10)])
        thing.take_back(1)
        self.assertEqual(attempts(thing, [0]), [("changed", 1)])

    def test_without_a_note(self):
        thing = Thing(0, 5)
        thing.take_back(1)
        thing.lend(1, 10)
        thing.take_back(2)
        thing.put_up(6)
        self.assertEqual(attempts(thing, [10]), [("waits", 10)])
        thing.take_back(1)
        thing.take_back(1)
        self.assertEqual(attempts(thing, [10]), [("changed", 1)])

    def test_lent_once_more_after_it(self):
        thing = Thing(0, 5)
        thing.lend(1, 10)
        thing.take_back(1)
        thing.lend(1, 7)
        thing.put_up(6)
        self.assertEqual(attempts(thing, [7, 8]), [("waits", 7), ("changed", 1)])

    def test_waiting_change_and_quiet_time_stay(self):
        thing = Thing(0, 5)
        thing.come_up(0, 10, 1)
        thing.put_up(6)
        for desk in range(20):
            thing.take_back(desk)
        self.assertIs(thing.put_up(7), False)
        self.assertEqual(attempts(thing, [12, 13]), [("waits", 12), ("changed", 1)])


class ComeUpTest(unittest.TestCase):
    def test_holds_changes_up(self):
        for clock, length, bound, until in ((0, 10, 0, 10), (5, 10, 3, 21), (-16, 10, 3, 0), (0, 1, HUGE, 2 * HUGE + 1)):
            with self.subTest(clock=clock, length=length, bound=bound):
                thing = Thing(0, 5)
                thing.come_up(clock, length, bound)
                self.assertEqual(state(thing), (5, 0))
                thing.put_up(6)
                self.assertEqual(
                    attempts(thing, [clock, until, until + 1]),
                    [("waits", until), ("waits", until), ("changed", 1)],
                )

    def test_twice_the_later_takes_the_place(self):
        for first, second in ((0, 30), (30, 0)):
            with self.subTest(first=first, second=second):
                thing = Thing(0, 5)
                thing.come_up(first, 10, 3)
                thing.come_up(second, 10, 3)
                thing.put_up(6)
                until = second + 16
                self.assertEqual(attempts(thing, [until, until + 1]), [("waits", until), ("changed", 1)])

    def test_beside_notes_the_greatest_holds(self):
        for lent, greatest in ((10, 16), (16, 16), (20, 20)):
            with self.subTest(lent=lent):
                thing = Thing(0, 5)
                thing.lend(1, lent)
                thing.come_up(0, 10, 3)
                thing.put_up(6)
                self.assertEqual(
                    attempts(thing, [0, greatest, greatest + 1]),
                    [("waits", greatest), ("waits", greatest), ("changed", 1)],
                )

    def test_notes_and_lendings_stand_beside_it(self):
        thing = Thing(0, 5)
        thing.lend(0, 20)
        thing.come_up(0, 10, 3)
        thing.lend(1, 18)
        thing.put_up(6)
        self.assertEqual(attempts(thing, [17]), [("waits", 20)])
        thing.take_back(0)
        self.assertEqual(attempts(thing, [17]), [("waits", 18)])
        thing.take_back(1)
        self.assertEqual(attempts(thing, [16, 17]), [("waits", 16), ("changed", 1)])


class AttemptsTest(unittest.TestCase):
    def test_no_reading(self):
        thing = Thing(0, 5)
        thing.put_up(6)
        self.assertEqual(attempts(thing, []), [])
        self.assertEqual(state(thing), (5, 0))

    def test_nothing_waits_and_nothing_is_done(self):
        thing = Thing(0, 5)
        thing.lend(1, 10)
        thing.come_up(0, 10, 3)
        self.assertEqual(attempts(thing, [0, 50]), ["nothing", "nothing"])
        self.assertEqual(state(thing), (5, 0))
        thing.put_up(6)
        self.assertEqual(attempts(thing, [16]), [("waits", 16)])
        thing.lend(2, 9)
        self.assertEqual(attempts(thing, [17]), [("changed", 1)])

    def test_an_attempt_that_is_held_up_takes_no_note_away(self):
        thing = Thing(0, 5)
        thing.lend(1, 10)
        thing.lend(2, 20)
        thing.put_up(6)
        self.assertEqual(attempts(thing, [15]), [("waits", 20)])
        thing.take_back(2)
        self.assertEqual(attempts(thing, [10]), [("waits", 10)])

    def test_one_after_the_other(self):
        thing = Thing(0, 5)
        thing.lend(1, 10)
        thing.put_up(6)
        self.assertEqual(
            attempts(thing, [10, -10, 11, 10, 0]),
            [("waits", 10), ("waits", 10), ("changed", 1), "nothing", "nothing"],
        )
        self.assertEqual(state(thing), (6, 1))

    def test_all_notes_and_the_quiet_time_are_gone_after_a_change(self):
        thing = Thing(0, 5)
        thing.lend(1, 10)
        thing.lend(2, 20)
        thing.come_up(0, 10, 3)
        thing.put_up(6)
        self.assertEqual(attempts(thing, [21]), [("changed", 1)])
        thing.put_up(7)
        self.assertEqual(attempts(thing, [0]), [("changed", 2)])
        self.assertEqual(state(thing), (7, 2))

    def test_lent_anew_after_a_change(self):
        thing = Thing(0, 5)
        thing.put_up(6)
        attempts(thing, [0])
        thing.lend(1, 10)
        thing.put_up(7)
        self.assertEqual(attempts(thing, [10, 11]), [("waits", 10), ("changed", 2)])

    def test_list_of_readings_is_as_it_was_and_is_not_kept(self):
        thing = Thing(0, 5)
        thing.lend(1, 10)
        thing.put_up(6)
        clocks = [10, 5]
        first = attempts(thing, clocks)
        self.assertEqual(clocks, [10, 5])
        clocks.append(99)
        first.clear()
        self.assertEqual(state(thing), (5, 0))
        self.assertEqual(attempts(thing, [10]), [("waits", 10)])

    def test_two_hundred_and_more_readings(self):
        thing = Thing(0, 5)
        thing.lend(1, 219)
        thing.put_up(6)
        expected = [("waits", 219)] * 220 + [("changed", 1)] + ["nothing"] * 29
        self.assertEqual(attempts(thing, list(range(250))), expected)

    def test_another_thing_is_as_it_was(self):
        other = Thing(0, 5)
        other.lend(2, 8)
        thing = Thing(0, 5)
        thing.lend(1, 10)
        thing.come_up(0, 10, 3)
        thing.put_up(6)
        self.assertEqual(attempts(other, [0]), ["nothing"])
        self.assertIs(other.put_up(9), True)
        self.assertEqual(attempts(thing, [17]), [("changed", 1)])
        self.assertEqual(state(other), (5, 0))
        self.assertEqual(attempts(other, [8, 9]), [("waits", 8), ("changed", 1)])
        self.assertEqual(state(other), (9, 1))
        self.assertEqual(state(thing), (6, 1))


def offsets(bound):
    return range(-bound, bound + 1)


def first_change(until, offset):
    """The true time at which the keeper's clock first lets a change through."""
    thing = Thing(0, 5)
    thing.lend(1, until)
    thing.put_up(6)
    for true_time in range(-50, 50):
        if attempts(thing, [true_time + offset]) == [("changed", 1)]:
            return true_time
    raise AssertionError("no change is ever done")


class ClocksThatGoUnlikeTest(unittest.TestCase):
    def test_no_copy_is_fresh_by_any_clock_when_a_change_is_done(self):
        for bound in (0, 1, 3):
            for until in (-4, 0, 9):
                for offset in offsets(bound):
                    done = first_change(until, offset)
                    for reader in offsets(bound):
                        with self.subTest(bound=bound, until=until, offset=offset, reader=reader):
                            self.assertFalse(is_fresh(done + reader, until, bound))

    def test_two_clocks_at_the_ends_of_the_bound_leave_no_time_unused(self):
        for bound in (0, 1, 3):
            done = first_change(9, bound)
            self.assertTrue(is_fresh(done - 1 - bound, 9, bound))

    def test_no_change_is_held_up_for_longer_than_the_longest_wait(self):
        for length, bound in ((1, 0), (10, 0), (10, 1), (4, 3), (HUGE, HUGE)):
            for begin in (-bound, 0, bound):
                for end in (-bound, 0, bound):
                    with self.subTest(length=length, bound=bound, begin=begin, end=end):
                        thing = Thing(0, 5)
                        thing.lend(1, begin + length)
                        thing.come_up(begin, length, bound)
                        thing.put_up(6)
                        past = longest_wait(length, bound) + 1
                        self.assertEqual(attempts(thing, [past + end]), [("changed", 1)])

    def test_a_change_may_be_held_up_for_the_longest_wait(self):
        for length, bound in ((1, 0), (10, 1), (4, 3), (HUGE, HUGE)):
            thing = Thing(0, 5)
            thing.come_up(bound, length, bound)
            thing.put_up(6)
            until = length + 3 * bound
            self.assertEqual(attempts(thing, [longest_wait(length, bound) - bound]), [("waits", until)])
