"""Stopping and coming up: points 10 and 11."""

from freshbook.story import copies_after, values_after
from tests.stories import HUGE, PLAN, THINGS, StoryCase


class LostByAStopTest(StoryCase):
    def test_its_copies(self):
        steps = [
            (("read", 2, "oats"), ("lent", -5, 0)),
            (("read", 2, "rye"), ("lent", 7, 0)),
            (("read", 1, "oats"), ("lent", -5, 0)),
            (("stop", 2), True),
            (("wake", 2), True),
            (("back", 2, "rye"), False),
            (("read", 2, "oats"), ("lent", -5, 0)),
        ]
        deeds = self.tell(steps)
        self.same(copies_after(PLAN, THINGS, deeds[:4]), [[], [("oats", -5, 0, 10)], []])
        self.same(copies_after(PLAN, THINGS, deeds[:5]), [[], [("oats", -5, 0, 10)], []])

    def test_copies_of_what_it_keeps_stay_with_the_others(self):
        steps = [
            (("read", 1, "oats"), ("lent", -5, 0)),
            (("stop", 0), True),
            (("wake", 0), True),
            (("read", 1, "oats"), ("fresh", -5, 0)),
        ]
        self.same(copies_after(PLAN, THINGS, self.tell(steps)), [[], [("oats", -5, 0, 10)], []])

    def test_the_note_of_a_lost_copy_stays_with_the_keeper(self):
        self.tell(
            [
                (("read", 1, "oats"), ("lent", -5, 0)),
                (("stop", 1), True),
                (("change", 0, "oats", 1), ("waits", 10)),
                (("wake", 1), True),
                (("try", "oats"), ("waits", 10)),
                (("pass", 11), 11),
                (("try", "oats"), ("changed", 1)),
            ]
        )

    def test_the_waiting_changes_of_what_it_keeps(self):
        things = THINGS + [("hay", 0, 3)]
        steps = [
            (("read", 1, "oats"), ("lent", -5, 0)),
            (("read", 1, "hay"), ("lent", 3, 0)),
            (("read", 2, "rye"), ("lent", 7, 0)),
            (("change", 2, "oats", 1), ("waits", 10)),
            (("change", 2, "hay", 1), ("waits", 10)),
            (("change", 0, "rye", 1), ("waits", 10)),
            (("stop", 0), True),
            (("wake", 0), True),
            (("try", "oats"), "nothing"),
            (("try", "hay"), "nothing"),
            (("try", "rye"), ("waits", 10)),
            (("read", 2, "oats"), ("lent", -5, 0)),
            (("pass", 99), 99),
            (("try", "oats"), "nothing"),
            (("change", 0, "oats", 6), ("changed", 1)),
            (("try", "rye"), ("changed", 1)),
        ]
        deeds = self.tell(steps, things=things)
        self.same(values_after(PLAN, things, deeds), [("hay", 3, 0), ("oats", 6, 1), ("rye", 1, 1)])

    def test_the_change_that_a_stopped_desk_asked_for_goes_on_waiting(self):
        self.tell(
            [
                (("read", 1, "oats"), ("lent", -5, 0)),
                (("change", 2, "oats", 1), ("waits", 10)),
                (("stop", 2), True),
                (("read", 1, "oats"), ("fresh", -5, 0)),
                (("change", 0, "oats", 3), "not now"),
                (("pass", 11), 11),
                (("try", "oats"), ("changed", 1)),
                (("read", 0, "oats"), ("own", 1, 1)),
            ]
        )


class StaysBehindAStopTest(StoryCase):
    def test_values_and_versions(self):
        steps = [
            (("change", 0, "oats", 4), ("changed", 1)),
            (("change", 0, "oats", 5), ("changed", 2)),
            (("stop", 0), True),
            (("pass", 5), 5),
            (("wake", 0), True),
            (("read", 0, "oats"), ("own", 5, 2)),
            (("read", 1, "oats"), ("lent", 5, 2)),
        ]
        deeds = self.tell(steps)
        self.same(values_after(PLAN, THINGS, deeds[:3]), [("oats", 5, 2), ("rye", 7, 0)])
        self.same(values_after(PLAN, THINGS, deeds), [("oats", 5, 2), ("rye", 7, 0)])

    def test_its_clock_goes_on(self):
        self.tell(
            [
                (("shift", 0, 1), True),
                (("stop", 0), True),
                (("pass", 5), 5),
                (("wake", 0), True),
                (("change", 0, "oats", 1), ("waits", 20)),
            ]
        )

    def test_a_readers_clock_goes_on(self):
        self.tell(
            [
                (("shift", 1, -2), True),
                (("stop", 1), True),
                (("pass", 5), 5),
                (("wake", 1), True),
                (("read", 1, "oats"), ("lent", -5, 0)),
                (("pass", 8), 13),
                (("read", 1, "oats"), ("fresh", -5, 0)),
                (("pass", 1), 14),
                (("read", 1, "oats"), ("lent", -5, 0)),
            ]
        )

    def test_a_quiet_time_at_the_stop_of_another_desk(self):
        self.tell(
            [
                (("stop", 0), True),
                (("wake", 0), True),
                (("stop", 1), True),
                (("stop", 2), True),
                (("change", 0, "oats", 1), ("waits", 14)),
                (("wake", 1), True),
                (("try", "oats"), ("waits", 14)),
            ]
        )

    def test_what_it_was_lent_once_more(self):
        steps = [
            (("read", 1, "oats"), ("lent", -5, 0)),
            (("stop", 1), True),
            (("wake", 1), True),
            (("pass", 2), 2),
            (("read", 1, "oats"), ("lent", -5, 0)),
            (("change", 0, "oats", 1), ("waits", 12)),
        ]
        self.same(copies_after(PLAN, THINGS, self.tell(steps))[1], [("oats", -5, 0, 12)])


class QuietTimeTest(StoryCase):
    def test_at_its_until_and_at_the_next_reading(self):
        for bound in (0, 1, 2):
            for waking in (-bound, 0, bound):
                for trying in (-bound, 0, bound):
                    until = 5 + waking + 10 + 2 * bound
                    more = until - trying - 5
                    with self.subTest(bound=bound, waking=waking, trying=trying):
                        self.tell(
                            [
                                (("stop", 0), True),
                                (("pass", 5), 5),
                                (("shift", 0, waking), True),
                                (("wake", 0), True),
                                (("shift", 0, trying), True),
                                (("change", 1, "oats", 1), ("waits", until)),
                                (("pass", more), 5 + more),
                                (("try", "oats"), ("waits", until)),
                                (("pass", 1), 6 + more),
                                (("try", "oats"), ("changed", 1)),
                            ],
                            plan=(3, 10, bound),
                        )

    def test_a_change_that_is_asked_for_behind_it_is_done_at_once(self):
        for passed, answer in ((14, ("waits", 14)), (15, ("changed", 1))):
            self.tell(
                [
                    (("stop", 0), True),
                    (("wake", 0), True),
                    (("pass", passed), passed),
                    (("change", 0, "oats", 1), answer),
                ]
            )

    def test_it_holds_as_long_as_a_copy_of_before_the_stop_may_be_fresh(self):
        self.tell(
            [
                (("shift", 0, 2), True),
                (("shift", 1, -2), True),
                (("read", 1, "oats"), ("lent", -5, 0)),
                (("stop", 0), True),
                (("shift", 0, -2), True),
                (("wake", 0), True),
                (("change", 0, "oats", 1), ("waits", 12)),
                (("shift", 0, 2), True),
                (("pass", 10), 10),
                (("read", 1, "oats"), ("fresh", -5, 0)),
                (("try", "oats"), ("waits", 12)),
                (("pass", 1), 11),
                (("read", 1, "oats"), "not now"),
                (("try", "oats"), ("changed", 1)),
            ]
        )

    def test_in_the_place_of_an_earlier_one(self):
        for first, second in ((2, -2), (-2, 2), (1, 1)):
            with self.subTest(first=first, second=second):
                self.tell(
                    [
                        (("shift", 0, first), True),
                        (("stop", 0), True),
                        (("wake", 0), True),
                        (("stop", 0), True),
                        (("shift", 0, second), True),
                        (("wake", 0), True),
                        (("change", 0, "oats", 1), ("waits", 14 + second)),
                    ]
                )

    def test_it_hinders_no_lending(self):
        steps = [
            (("stop", 0), True),
            (("wake", 0), True),
            (("read", 1, "oats"), ("lent", -5, 0)),
            (("read", 1, "oats"), ("fresh", -5, 0)),
            (("pass", 6), 6),
            (("read", 2, "oats"), ("lent", -5, 0)),
            (("change", 0, "oats", 1), ("waits", 16)),
            (("back", 2, "oats"), True),
            (("try", "oats"), ("waits", 14)),
        ]
        self.same(copies_after(PLAN, THINGS, self.tell(steps)), [[], [("oats", -5, 0, 10)], []])

    def test_each_thing_that_it_keeps_and_no_other(self):
        things = THINGS + [("hay", 0, 3), ("bran", 2, 4)]
        self.tell(
            [
                (("stop", 0), True),
                (("wake", 0), True),
                (("change", 1, "oats", 1), ("waits", 14)),
                (("change", 1, "hay", 1), ("waits", 14)),
                (("change", 1, "rye", 1), ("changed", 1)),
                (("change", 0, "bran", 1), ("changed", 1)),
            ],
            things=things,
        )

    def test_none_at_the_beginning_nor_by_a_wake_of_a_desk_that_is_up(self):
        self.tell([(("wake", 0), False), (("change", 0, "oats", 1), ("changed", 1))])

    def test_a_wake_of_a_desk_that_is_up_leaves_the_quiet_time_as_it_was(self):
        self.tell(
            [
                (("stop", 0), True),
                (("wake", 0), True),
                (("pass", 5), 5),
                (("wake", 0), False),
                (("change", 0, "oats", 1), ("waits", 14)),
            ]
        )

    def test_a_second_stop_and_wake_loses_a_change_that_waits_for_the_first(self):
        self.tell(
            [
                (("stop", 0), True),
                (("wake", 0), True),
                (("change", 0, "oats", 1), ("waits", 14)),
                (("stop", 0), True),
                (("pass", 1), 1),
                (("wake", 0), True),
                (("try", "oats"), "nothing"),
                (("change", 0, "oats", 2), ("waits", 15)),
                (("pass", 15), 16),
                (("try", "oats"), ("changed", 1)),
                (("read", 0, "oats"), ("own", 2, 1)),
            ]
        )

    def test_huge(self):
        until = 3 * HUGE + 10
        self.tell(
            [
                (("shift", 0, HUGE), True),
                (("stop", 0), True),
                (("wake", 0), True),
                (("change", 0, "oats", 1), ("waits", until)),
                (("pass", 2 * HUGE + 10), 2 * HUGE + 10),
                (("try", "oats"), ("waits", until)),
                (("pass", 1), 2 * HUGE + 11),
                (("try", "oats"), ("changed", 1)),
            ],
            plan=(1, 10, HUGE),
            things=[("oats", 0, -5)],
        )
