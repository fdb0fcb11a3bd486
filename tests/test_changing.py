"""Changing and giving back: points 7, 8 and 9."""

from freshbook.story import copies_after, values_after
from tests.stories import HUGE, HUGER, PLAN, THINGS, StoryCase


class GivesBackFirstTest(StoryCase):
    def test_its_own_copy_holds_it_not_up(self):
        steps = [(("read", 1, "oats"), ("lent", -5, 0)), (("change", 1, "oats", 1), ("changed", 1))]
        self.same(copies_after(PLAN, THINGS, self.tell(steps)), [[], [], []])

    def test_another_desks_copy_holds_it_up(self):
        steps = [
            (("read", 2, "oats"), ("lent", -5, 0)),
            (("pass", 3), 3),
            (("read", 1, "oats"), ("lent", -5, 0)),
            (("change", 1, "oats", 1), ("waits", 10)),
            (("back", 1, "oats"), False),
        ]
        self.same(copies_after(PLAN, THINGS, self.tell(steps)), [[], [], [("oats", -5, 0, 10)]])

    def test_a_copy_that_is_no_longer_fresh_too(self):
        steps = [
            (("read", 1, "oats"), ("lent", -5, 0)),
            (("pass", 7), 7),
            (("change", 1, "oats", 1), ("changed", 1)),
        ]
        self.same(copies_after(PLAN, THINGS, self.tell(steps)), [[], [], []])

    def test_also_where_the_copy_was_lost_in_a_stop(self):
        self.tell(
            [
                (("read", 1, "oats"), ("lent", -5, 0)),
                (("stop", 1), True),
                (("wake", 1), True),
                (("change", 1, "oats", 1), ("changed", 1)),
            ]
        )

    def test_also_where_the_copy_was_lost_and_another_holds_it_up(self):
        self.tell(
            [
                (("read", 2, "oats"), ("lent", -5, 0)),
                (("pass", 3), 3),
                (("read", 1, "oats"), ("lent", -5, 0)),
                (("stop", 1), True),
                (("wake", 1), True),
                (("change", 1, "oats", 1), ("waits", 10)),
            ]
        )

    def test_what_it_was_lent_of_other_things_stays(self):
        things = THINGS + [("hay", 0, 3)]
        steps = [
            (("read", 2, "oats"), ("lent", -5, 0)),
            (("read", 2, "hay"), ("lent", 3, 0)),
            (("read", 2, "rye"), ("lent", 7, 0)),
            (("change", 2, "oats", 1), ("changed", 1)),
            (("change", 0, "hay", 4), ("waits", 10)),
            (("change", 0, "rye", 4), ("waits", 10)),
        ]
        deeds = self.tell(steps, things=things)
        self.same(copies_after(PLAN, things, deeds), [[], [], [("hay", 3, 0, 10), ("rye", 7, 0, 10)]])

    def test_the_keeper_gives_nothing_back(self):
        steps = [(("read", 1, "oats"), ("lent", -5, 0)), (("change", 0, "oats", 1), ("waits", 10))]
        self.same(copies_after(PLAN, THINGS, self.tell(steps)), [[], [("oats", -5, 0, 10)], []])


class NotNowTest(StoryCase):
    def test_what_was_lent_is_given_back_all_the_same(self):
        steps = [
            (("read", 2, "oats"), ("lent", -5, 0)),
            (("pass", 3), 3),
            (("read", 1, "oats"), ("lent", -5, 0)),
            (("change", 0, "oats", 1), ("waits", 13)),
            (("change", 1, "oats", 2), "not now"),
            (("try", "oats"), ("waits", 10)),
            (("change", 2, "oats", 3), "not now"),
            (("read", 0, "oats"), ("own", -5, 0)),
            (("try", "oats"), ("changed", 1)),
            (("read", 0, "oats"), ("own", 1, 1)),
        ]
        deeds = self.tell(steps)
        self.same(copies_after(PLAN, THINGS, deeds[:4]), [[], [("oats", -5, 0, 13)], [("oats", -5, 0, 10)]])
        self.same(copies_after(PLAN, THINGS, deeds[:5]), [[], [], [("oats", -5, 0, 10)]])
        self.same(copies_after(PLAN, THINGS, deeds[:7]), [[], [], []])

    def test_also_where_the_copy_was_lost(self):
        self.tell(
            [
                (("read", 2, "oats"), ("lent", -5, 0)),
                (("pass", 3), 3),
                (("read", 1, "oats"), ("lent", -5, 0)),
                (("stop", 1), True),
                (("wake", 1), True),
                (("change", 0, "oats", 1), ("waits", 13)),
                (("change", 1, "oats", 2), "not now"),
                (("try", "oats"), ("waits", 10)),
            ]
        )

    def test_the_first_change_is_the_one_that_waits(self):
        for first, second in ((1, 2), (0, 2), (1, 0), (HUGER, -HUGER)):
            with self.subTest(first=first, second=second):
                steps = [
                    (("read", 1, "oats"), ("lent", -5, 0)),
                    (("change", 2, "oats", first), ("waits", 10)),
                    (("change", 0, "oats", second), "not now"),
                    (("change", 2, "oats", second), "not now"),
                    (("pass", 11), 11),
                    (("change", 2, "oats", second), "not now"),
                    (("try", "oats"), ("changed", 1)),
                    (("try", "oats"), "nothing"),
                ]
                self.same(values_after(PLAN, THINGS, self.tell(steps)), [("oats", first, 1), ("rye", 7, 0)])


class NoAnswerTest(StoryCase):
    def test_nothing_is_given_back(self):
        steps = [
            (("read", 1, "oats"), ("lent", -5, 0)),
            (("stop", 0), True),
            (("change", 1, "oats", 1), "no answer"),
            (("read", 1, "oats"), ("fresh", -5, 0)),
            (("wake", 0), True),
            (("try", "oats"), "nothing"),
            (("read", 1, "oats"), ("fresh", -5, 0)),
            (("back", 1, "oats"), True),
        ]
        deeds = self.tell(steps)
        self.same(copies_after(PLAN, THINGS, deeds[:7])[1], [("oats", -5, 0, 10)])

    def test_other_keepers_answer(self):
        self.tell(
            [
                (("stop", 0), True),
                (("change", 1, "oats", 1), "no answer"),
                (("change", 1, "rye", 1), ("changed", 1)),
                (("change", 2, "rye", 1), ("changed", 2)),
            ]
        )


class AttemptTest(StoryCase):
    def test_at_the_until_and_at_the_next_reading(self):
        for bound in (0, 1, 2):
            for lending in (-bound, 0, bound):
                for trying in (-bound, 0, bound):
                    until = 10 + lending
                    last = until - trying
                    with self.subTest(bound=bound, lending=lending, trying=trying):
                        self.tell(
                            [
                                (("shift", 0, lending), True),
                                (("read", 1, "oats"), ("lent", -5, 0)),
                                (("shift", 0, trying), True),
                                (("shift", 1, -trying), True),
                                (("change", 2, "oats", 1), ("waits", until)),
                                (("pass", last), last),
                                (("try", "oats"), ("waits", until)),
                                (("pass", 1), last + 1),
                                (("try", "oats"), ("changed", 1)),
                                (("read", 0, "oats"), ("own", 1, 1)),
                            ],
                            plan=(3, 10, bound),
                        )

    def test_a_change_is_attempted_at_once_by_the_keepers_clock(self):
        for keeper in (-2, 0, 2):
            for asker in (-2, 0, 2):
                for reading, answer in ((9, ("waits", 10)), (10, ("waits", 10)), (11, ("changed", 1))):
                    with self.subTest(keeper=keeper, asker=asker, reading=reading):
                        self.tell(
                            [
                                (("read", 1, "oats"), ("lent", -5, 0)),
                                (("shift", 0, keeper), True),
                                (("shift", 2, asker), True),
                                (("pass", reading - keeper), reading - keeper),
                                (("change", 2, "oats", 1), answer),
                            ]
                        )

    def test_the_greatest_of_those_that_hold(self):
        self.tell(
            [
                (("shift", 0, 2), True),
                (("read", 1, "oats"), ("lent", -5, 0)),
                (("shift", 0, -2), True),
                (("read", 2, "oats"), ("lent", -5, 0)),
                (("change", 0, "oats", 1), ("waits", 12)),
                (("pass", 12), 12),
                (("try", "oats"), ("waits", 12)),
                (("back", 1, "oats"), True),
                (("try", "oats"), ("changed", 1)),
            ]
        )

    def test_a_held_up_attempt_takes_no_note_away(self):
        self.tell(
            [
                (("read", 1, "oats"), ("lent", -5, 0)),
                (("pass", 1), 1),
                (("read", 2, "oats"), ("lent", -5, 0)),
                (("shift", 0, 2), True),
                (("pass", 8), 9),
                (("change", 0, "oats", 1), ("waits", 11)),
                (("back", 2, "oats"), True),
                (("shift", 0, 0), True),
                (("try", "oats"), ("waits", 10)),
            ]
        )

    def test_all_notes_are_gone_behind_a_change_and_the_copies_stay(self):
        steps = [
            (("read", 1, "oats"), ("lent", -5, 0)),
            (("read", 2, "oats"), ("lent", -5, 0)),
            (("change", 0, "oats", 1), ("waits", 10)),
            (("shift", 0, 2), True),
            (("pass", 9), 9),
            (("try", "oats"), ("changed", 1)),
            (("shift", 0, -2), True),
            (("change", 0, "oats", 2), ("changed", 2)),
        ]
        self.same(
            copies_after(PLAN, THINGS, self.tell(steps)),
            [[], [("oats", -5, 0, 10)], [("oats", -5, 0, 10)]],
        )

    def test_the_quiet_time_is_gone_behind_a_change(self):
        self.tell(
            [
                (("stop", 0), True),
                (("wake", 0), True),
                (("change", 0, "oats", 1), ("waits", 14)),
                (("shift", 0, 2), True),
                (("pass", 13), 13),
                (("try", "oats"), ("changed", 1)),
                (("shift", 0, -2), True),
                (("change", 0, "oats", 2), ("changed", 2)),
            ]
        )

    def test_where_no_change_waits_nothing_is_done(self):
        self.tell(
            [
                (("stop", 0), True),
                (("wake", 0), True),
                (("try", "oats"), "nothing"),
                (("pass", 5), 5),
                (("read", 1, "oats"), ("lent", -5, 0)),
                (("try", "oats"), "nothing"),
                (("read", 1, "oats"), ("fresh", -5, 0)),
                (("read", 0, "oats"), ("own", -5, 0)),
                (("change", 0, "oats", 1), ("waits", 15)),
                (("back", 1, "oats"), True),
                (("try", "oats"), ("waits", 14)),
            ]
        )

    def test_nothing_is_attempted_but_by_a_change_or_a_try(self):
        self.tell(
            [
                (("read", 1, "oats"), ("lent", -5, 0)),
                (("change", 0, "oats", 1), ("waits", 10)),
                (("back", 1, "oats"), True),
                (("read", 0, "oats"), ("own", -5, 0)),
                (("pass", 99), 99),
                (("shift", 0, 2), True),
                (("read", 2, "oats"), "not now"),
                (("stop", 1), True),
                (("wake", 1), True),
                (("try", "rye"), "nothing"),
                (("read", 0, "oats"), ("own", -5, 0)),
                (("try", "oats"), ("changed", 1)),
            ]
        )

    def test_the_waiting_change_is_gone_when_it_is_done(self):
        self.tell(
            [
                (("read", 1, "oats"), ("lent", -5, 0)),
                (("change", 0, "oats", 1), ("waits", 10)),
                (("pass", 11), 11),
                (("try", "oats"), ("changed", 1)),
                (("read", 2, "oats"), ("lent", 1, 1)),
                (("change", 1, "oats", 2), ("waits", 21)),
                (("pass", 11), 22),
                (("try", "oats"), ("changed", 2)),
                (("read", 0, "oats"), ("own", 2, 2)),
            ]
        )

    def test_a_change_to_the_like_value_is_one_too(self):
        self.tell([(("change", 0, "oats", -5), ("changed", 1)), (("read", 0, "oats"), ("own", -5, 1))])

    def test_huge(self):
        self.tell(
            [
                (("read", 1, "oats"), ("lent", -5, 0)),
                (("change", 0, "oats", HUGER), ("waits", HUGE)),
                (("pass", HUGE), HUGE),
                (("try", "oats"), ("waits", HUGE)),
                (("pass", 1), HUGE + 1),
                (("try", "oats"), ("changed", 1)),
                (("read", 0, "oats"), ("own", HUGER, 1)),
            ],
            plan=(2, HUGE, 0),
        )


class GivenBackTest(StoryCase):
    def test_copy_and_note_are_gone(self):
        steps = [
            (("read", 1, "oats"), ("lent", -5, 0)),
            (("back", 1, "oats"), True),
            (("change", 0, "oats", 1), ("changed", 1)),
        ]
        deeds = self.tell(steps)
        self.same(copies_after(PLAN, THINGS, deeds[:2]), [[], [], []])

    def test_it_is_read_no_longer(self):
        self.tell(
            [
                (("read", 1, "oats"), ("lent", -5, 0)),
                (("back", 1, "oats"), True),
                (("stop", 0), True),
                (("read", 1, "oats"), "no answer"),
            ]
        )

    def test_the_note_is_gone_also_where_the_copy_was_lost(self):
        self.tell(
            [
                (("read", 1, "oats"), ("lent", -5, 0)),
                (("stop", 1), True),
                (("wake", 1), True),
                (("back", 1, "oats"), False),
                (("change", 0, "oats", 1), ("changed", 1)),
            ]
        )

    def test_other_desks_and_other_things_are_as_they_were(self):
        steps = [
            (("read", 2, "rye"), ("lent", 7, 0)),
            (("read", 2, "oats"), ("lent", -5, 0)),
            (("read", 1, "oats"), ("lent", -5, 0)),
            (("back", 2, "oats"), True),
            (("back", 0, "oats"), False),
            (("change", 0, "oats", 1), ("waits", 10)),
            (("change", 1, "rye", 1), ("waits", 10)),
        ]
        self.same(
            copies_after(PLAN, THINGS, self.tell(steps)),
            [[], [("oats", -5, 0, 10)], [("rye", 7, 0, 10)]],
        )

    def test_while_a_change_waits(self):
        self.tell(
            [
                (("read", 1, "oats"), ("lent", -5, 0)),
                (("change", 0, "oats", 1), ("waits", 10)),
                (("back", 1, "oats"), True),
                (("read", 1, "oats"), "not now"),
                (("try", "oats"), ("changed", 1)),
            ]
        )

    def test_while_the_keeper_is_stopped(self):
        steps = [
            (("read", 1, "oats"), ("lent", -5, 0)),
            (("read", 2, "oats"), ("lent", -5, 0)),
            (("stop", 0), True),
            (("back", 1, "oats"), True),
            (("back", 1, "oats"), False),
            (("read", 1, "oats"), "no answer"),
            (("read", 2, "oats"), ("fresh", -5, 0)),
            (("wake", 0), True),
            (("change", 0, "oats", 1), ("waits", 14)),
        ]
        self.same(copies_after(PLAN, THINGS, self.tell(steps)), [[], [], [("oats", -5, 0, 10)]])

    def test_no_quiet_time_is_given_back(self):
        self.tell(
            [
                (("stop", 0), True),
                (("wake", 0), True),
                (("read", 1, "oats"), ("lent", -5, 0)),
                (("back", 1, "oats"), True),
                (("back", 0, "oats"), False),
                (("change", 1, "oats", 1), ("waits", 14)),
            ]
        )
