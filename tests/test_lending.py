"""Lending and reading: points 4, 5 and 6."""

from freshbook.story import answers, copies_after
from tests.stories import HUGE, PLAN, THINGS, StoryCase


class UntilTest(StoryCase):
    def test_by_the_keepers_clock_and_the_length(self):
        for length in (1, 10, HUGE):
            for passed in (0, 7, HUGE):
                for keeper in (-2, 0, 2):
                    for reader in (-2, 0, 2):
                        with self.subTest(length=length, passed=passed, keeper=keeper, reader=reader):
                            deeds = [("shift", 0, keeper), ("shift", 1, reader), ("pass", passed), ("read", 1, "oats")]
                            self.same(
                                copies_after((3, length, 2), THINGS, deeds),
                                [[], [("oats", -5, 0, passed + keeper + length)], []],
                            )

    def test_below_nought(self):
        deeds = [("shift", 0, -50), ("read", 1, "oats"), ("change", 0, "oats", 1)]
        self.same(copies_after((3, 10, 50), THINGS, deeds)[1], [("oats", -5, 0, -40)])
        self.same(answers((3, 10, 50), THINGS, deeds)[2], ("waits", -40))

    def test_it_stays_whatever_the_clocks_show_then(self):
        deeds = [("read", 1, "oats"), ("shift", 0, 2), ("shift", 1, -2), ("pass", 5), ("read", 1, "oats")]
        self.same(answers(PLAN, THINGS, deeds)[4], ("fresh", -5, 0))
        self.same(copies_after(PLAN, THINGS, deeds)[1], [("oats", -5, 0, 10)])

    def test_the_note_has_the_like_until(self):
        self.tell(
            [
                (("shift", 0, 1), True),
                (("pass", 3), 3),
                (("read", 1, "oats"), ("lent", -5, 0)),
                (("shift", 0, -1), True),
                (("change", 0, "oats", 1), ("waits", 14)),
            ]
        )

    def test_a_fresh_reading_lends_nothing_anew(self):
        steps = [
            (("read", 1, "oats"), ("lent", -5, 0)),
            (("pass", 6), 6),
            (("read", 1, "oats"), ("fresh", -5, 0)),
            (("change", 0, "oats", 1), ("waits", 10)),
        ]
        self.same(copies_after(PLAN, THINGS, self.tell(steps))[1], [("oats", -5, 0, 10)])


class LaterLendingTest(StoryCase):
    def test_a_later_until_takes_the_place(self):
        steps = [
            (("read", 1, "oats"), ("lent", -5, 0)),
            (("pass", 7), 7),
            (("read", 1, "oats"), ("lent", -5, 0)),
            (("change", 0, "oats", 1), ("waits", 17)),
        ]
        self.same(copies_after(PLAN, THINGS, self.tell(steps)), [[], [("oats", -5, 0, 17)], []])

    def test_an_earlier_until_takes_the_place_too(self):
        plan = (3, 10, 5)
        steps = [
            (("shift", 0, 5), True),
            (("read", 1, "oats"), ("lent", -5, 0)),
            (("pass", 6), 6),
            (("shift", 0, -5), True),
            (("read", 1, "oats"), ("lent", -5, 0)),
            (("change", 0, "oats", 1), ("waits", 11)),
            (("pass", 10), 16),
            (("try", "oats"), ("waits", 11)),
            (("pass", 1), 17),
            (("try", "oats"), ("changed", 1)),
        ]
        deeds = self.tell(steps, plan=plan)
        self.same(copies_after(plan, THINGS, deeds[:2])[1], [("oats", -5, 0, 15)])
        self.same(copies_after(plan, THINGS, deeds[:5])[1], [("oats", -5, 0, 11)])

    def test_other_desks_notes_and_copies_stay(self):
        steps = [
            (("read", 2, "oats"), ("lent", -5, 0)),
            (("pass", 3), 3),
            (("read", 1, "oats"), ("lent", -5, 0)),
            (("change", 0, "oats", 1), ("waits", 13)),
            (("back", 1, "oats"), True),
            (("try", "oats"), ("waits", 10)),
        ]
        deeds = self.tell(steps)
        self.same(copies_after(PLAN, THINGS, deeds[:3]), [[], [("oats", -5, 0, 13)], [("oats", -5, 0, 10)]])

    def test_it_has_the_value_and_version_of_its_moment(self):
        steps = [
            (("read", 1, "oats"), ("lent", -5, 0)),
            (("pass", 11), 11),
            (("change", 2, "oats", 4), ("changed", 1)),
            (("read", 1, "oats"), ("lent", 4, 1)),
            (("read", 1, "oats"), ("fresh", 4, 1)),
        ]
        deeds = self.tell(steps)
        self.same(copies_after(PLAN, THINGS, deeds[:3])[1], [("oats", -5, 0, 10)])
        self.same(copies_after(PLAN, THINGS, deeds)[1], [("oats", 4, 1, 21)])


class FreshTest(StoryCase):
    def test_by_the_last_fresh_reading_and_by_the_next_one(self):
        for bound in (0, 1, 2):
            for keeper in (-bound, 0, bound):
                for reader in (-bound, 0, bound):
                    # The time at which the reader's clock shows the until less twice the bound.
                    last = 10 + keeper - 2 * bound - reader
                    with self.subTest(bound=bound, keeper=keeper, reader=reader):
                        self.tell(
                            [
                                (("shift", 0, keeper), True),
                                (("shift", 1, reader), True),
                                (("read", 1, "oats"), ("lent", -5, 0)),
                                (("pass", last), last),
                                (("read", 1, "oats"), ("fresh", -5, 0)),
                                (("pass", 1), last + 1),
                                (("read", 1, "oats"), ("lent", -5, 0)),
                            ],
                            plan=(3, 10, bound),
                        )

    def test_by_the_last_fresh_reading_and_by_the_next_one_where_the_clock_is_shifted_there(self):
        self.tell(
            [
                (("read", 1, "oats"), ("lent", -5, 0)),
                (("pass", 5), 5),
                (("shift", 0, 2), True),
                (("shift", 1, 1), True),
                (("read", 1, "oats"), ("fresh", -5, 0)),
                (("stop", 0), True),
                (("shift", 1, 2), True),
                (("read", 1, "oats"), "no answer"),
                (("shift", 1, 1), True),
                (("read", 1, "oats"), ("fresh", -5, 0)),
            ]
        )

    def test_each_copy_by_its_own_desks_clock(self):
        self.tell(
            [
                (("read", 1, "oats"), ("lent", -5, 0)),
                (("read", 2, "oats"), ("lent", -5, 0)),
                (("shift", 1, 2), True),
                (("shift", 2, -2), True),
                (("pass", 8), 8),
                (("read", 1, "oats"), ("lent", -5, 0)),
                (("read", 2, "oats"), ("fresh", -5, 0)),
                (("pass", 1), 9),
                (("read", 2, "oats"), ("lent", -5, 0)),
            ]
        )

    def test_never_where_twice_the_bound_is_more_than_the_length(self):
        self.tell(
            [
                (("read", 1, "oats"), ("lent", -5, 0)),
                (("read", 1, "oats"), ("lent", -5, 0)),
                (("change", 0, "oats", 1), ("waits", 3)),
                (("read", 1, "oats"), "not now"),
            ],
            plan=(3, 3, 2),
        )

    def test_at_the_moment_of_the_lending_alone(self):
        self.tell(
            [
                (("read", 1, "oats"), ("lent", -5, 0)),
                (("read", 1, "oats"), ("fresh", -5, 0)),
                (("pass", 1), 1),
                (("read", 1, "oats"), ("lent", -5, 0)),
            ],
            plan=(3, 4, 2),
        )

    def test_huge(self):
        self.tell(
            [
                (("shift", 1, -HUGE), True),
                (("read", 1, "oats"), ("lent", -5, 0)),
                (("pass", 2 * HUGE), 2 * HUGE),
                (("read", 1, "oats"), ("fresh", -5, 0)),
                (("pass", 1), 2 * HUGE + 1),
                (("read", 1, "oats"), ("lent", -5, 0)),
            ],
            plan=(2, 3 * HUGE, HUGE),
        )


class KeepersOwnTest(StoryCase):
    def test_it_is_lent_nothing(self):
        steps = [(("read", 0, "oats"), ("own", -5, 0)), (("change", 1, "oats", 1), ("changed", 1))]
        self.same(copies_after(PLAN, THINGS, self.tell(steps)), [[], [], []])

    def test_as_it_is(self):
        self.tell(
            [
                (("read", 0, "oats"), ("own", -5, 0)),
                (("change", 1, "oats", 4), ("changed", 1)),
                (("read", 0, "oats"), ("own", 4, 1)),
                (("pass", 99), 99),
                (("change", 0, "oats", -4), ("changed", 2)),
                (("read", 0, "oats"), ("own", -4, 2)),
            ]
        )

    def test_while_a_change_waits(self):
        self.tell(
            [
                (("read", 1, "oats"), ("lent", -5, 0)),
                (("change", 1, "rye", 3), ("changed", 1)),
                (("change", 0, "oats", 1), ("waits", 10)),
                (("read", 0, "oats"), ("own", -5, 0)),
                (("pass", 99), 99),
                (("read", 0, "oats"), ("own", -5, 0)),
                (("try", "oats"), ("changed", 1)),
                (("read", 0, "oats"), ("own", 1, 1)),
            ]
        )

    def test_behind_a_stop(self):
        self.tell([(("stop", 0), True), (("wake", 0), True), (("read", 0, "oats"), ("own", -5, 0))])


class WaitingChangeTest(StoryCase):
    def test_it_hinders_no_reading_of_a_fresh_copy(self):
        self.tell(
            [
                (("read", 1, "oats"), ("lent", -5, 0)),
                (("change", 2, "oats", 1), ("waits", 10)),
                (("read", 1, "oats"), ("fresh", -5, 0)),
                (("pass", 6), 6),
                (("read", 1, "oats"), ("fresh", -5, 0)),
                (("pass", 1), 7),
                (("read", 1, "oats"), "not now"),
                (("pass", 4), 11),
                (("read", 1, "oats"), "not now"),
                (("try", "oats"), ("changed", 1)),
                (("read", 1, "oats"), ("lent", 1, 1)),
            ]
        )

    def test_a_lending_that_is_hindered_leaves_copy_and_note_as_they_are(self):
        steps = [
            (("read", 1, "oats"), ("lent", -5, 0)),
            (("change", 0, "oats", 1), ("waits", 10)),
            (("pass", 7), 7),
            (("read", 1, "oats"), "not now"),
            (("read", 2, "oats"), "not now"),
            (("try", "oats"), ("waits", 10)),
            (("pass", 4), 11),
            (("try", "oats"), ("changed", 1)),
        ]
        self.same(copies_after(PLAN, THINGS, self.tell(steps)), [[], [("oats", -5, 0, 10)], []])

    def test_a_change_to_nought_hinders_too(self):
        self.tell(
            [
                (("read", 1, "oats"), ("lent", -5, 0)),
                (("change", 0, "oats", 0), ("waits", 10)),
                (("read", 2, "oats"), "not now"),
            ]
        )

    def test_the_desk_that_asked_for_it_is_lent_nothing_either(self):
        self.tell(
            [
                (("read", 1, "oats"), ("lent", -5, 0)),
                (("read", 2, "oats"), ("lent", -5, 0)),
                (("change", 2, "oats", 1), ("waits", 10)),
                (("read", 2, "oats"), "not now"),
            ]
        )


class StoppedKeeperTest(StoryCase):
    def test_a_fresh_copy_is_read_all_the_same(self):
        steps = [
            (("read", 1, "oats"), ("lent", -5, 0)),
            (("stop", 0), True),
            (("pass", 6), 6),
            (("read", 1, "oats"), ("fresh", -5, 0)),
            (("pass", 1), 7),
            (("read", 1, "oats"), "no answer"),
        ]
        self.same(copies_after(PLAN, THINGS, self.tell(steps))[1], [("oats", -5, 0, 10)])

    def test_nothing_is_lent(self):
        steps = [(("stop", 0), True), (("read", 1, "oats"), "no answer")]
        self.same(copies_after(PLAN, THINGS, self.tell(steps)), [[], [], []])
