import unittest

from freshbook.times import held_until, is_fresh, last_fresh, longest_wait, quiet_until, within

HUGE = 10 ** 100
HUGER = 10 ** 130

# until, bound, the last fresh reading
LAST = (
    (10, 0, 10),
    (0, 0, 0),
    (-10, 0, -10),
    (10, 1, 8),
    (2, 1, 0),
    (1, 1, -1),
    (0, 1, -2),
    (-10, 1, -12),
    (10, 3, 4),
    (6, 3, 0),
    (5, 3, -1),
    (0, 3, -6),
    (-10, 3, -16),
    (7, HUGE, 7 - HUGE - HUGE),
    (-7, HUGE, -7 - HUGE - HUGE),
    (HUGE, HUGE, -HUGE),
    (-HUGE, HUGE, -3 * HUGE),
    (HUGE + 1, 0, HUGE + 1),
    (-HUGE - 1, 3, -HUGE - 7),
    (HUGER + 1, HUGER, 1 - HUGER),
)


class FreshTest(unittest.TestCase):
    def test_last_fresh(self):
        for until, bound, last in LAST:
            with self.subTest(until=until, bound=bound):
                self.assertEqual(last_fresh(until, bound), last)

    def test_is_fresh_up_to_the_last_fresh_reading(self):
        for until, bound, last in LAST:
            with self.subTest(until=until, bound=bound):
                self.assertIs(is_fresh(last - 1, until, bound), True)
                self.assertIs(is_fresh(last, until, bound), True)
                self.assertIs(is_fresh(last + 1, until, bound), False)

    def test_is_fresh_far_off(self):
        self.assertIs(is_fresh(-HUGE, 0, 3), True)
        self.assertIs(is_fresh(HUGE, 0, 3), False)


class HeldUntilTest(unittest.TestCase):
    def test_no_until(self):
        for clock in (-1, 0, 1, HUGE):
            self.assertIsNone(held_until(clock, []))

    def test_one_until_ahead_at_and_behind(self):
        for until in (-5, 0, 5, HUGE, -HUGE):
            with self.subTest(until=until):
                self.assertEqual(held_until(until - 1, [until]), until)
                self.assertEqual(held_until(until, [until]), until)
                self.assertIsNone(held_until(until + 1, [until]))

    def test_until_nought_is_no_none(self):
        self.assertEqual(held_until(0, [0]), 0)
        self.assertEqual(held_until(-1, [0, -3]), 0)

    def test_some_hold_and_some_do_not(self):
        self.assertEqual(held_until(5, [4, 9, 5, 7, 1]), 9)
        self.assertEqual(held_until(5, [4, 5, 1]), 5)
        self.assertEqual(held_until(-5, [-6, -4, -9]), -4)
        self.assertIsNone(held_until(10, [4, 9, 5, 7, 1]))

    def test_greatest_wherever_it_stands(self):
        for untils in ([9, 6, 7], [6, 9, 7], [6, 7, 9]):
            self.assertEqual(held_until(6, untils), 9)

    def test_like_untils(self):
        self.assertEqual(held_until(3, [3, 3]), 3)
        self.assertEqual(held_until(3, [8, 2, 8]), 8)
        self.assertIsNone(held_until(4, [3, 3]))

    def test_list_is_as_it_was(self):
        untils = [4, 9, 5, 9, -7]
        held_until(5, untils)
        held_until(50, untils)
        self.assertEqual(untils, [4, 9, 5, 9, -7])

    def test_two_hundred_and_more_untils(self):
        self.assertEqual(held_until(100, list(range(250))), 249)
        self.assertIsNone(held_until(250, list(range(250))))


class SumsTest(unittest.TestCase):
    def test_quiet_until(self):
        self.assertEqual(quiet_until(0, 1, 0), 1)
        self.assertEqual(quiet_until(7, 10, 0), 17)
        self.assertEqual(quiet_until(7, 10, 1), 19)
        self.assertEqual(quiet_until(7, 10, 3), 23)
        self.assertEqual(quiet_until(-30, 10, 3), -14)
        self.assertEqual(quiet_until(-16, 10, 3), 0)
        self.assertEqual(quiet_until(HUGE, 1, HUGE), 3 * HUGE + 1)
        self.assertEqual(quiet_until(-HUGE, HUGE, 1), 2)

    def test_longest_wait(self):
        self.assertEqual(longest_wait(1, 0), 1)
        self.assertEqual(longest_wait(10, 0), 10)
        self.assertEqual(longest_wait(10, 1), 14)
        self.assertEqual(longest_wait(10, 3), 22)
        self.assertEqual(longest_wait(HUGE, 1), HUGE + 4)
        self.assertEqual(longest_wait(1, HUGER), 4 * HUGER + 1)

    def test_within_at_the_bound_and_one_beyond(self):
        for bound in (0, 1, 3, HUGE, HUGER):
            with self.subTest(bound=bound):
                self.assertIs(within(0, bound), True)
                self.assertIs(within(bound, bound), True)
                self.assertIs(within(-bound, bound), True)
                self.assertIs(within(bound + 1, bound), False)
                self.assertIs(within(-bound - 1, bound), False)

    def test_within_inside_and_far_off(self):
        self.assertIs(within(2, 3), True)
        self.assertIs(within(-2, 3), True)
        self.assertIs(within(HUGE, 3), False)
        self.assertIs(within(-HUGE, 3), False)
