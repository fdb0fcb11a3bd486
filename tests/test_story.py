"""Each deed with each of its answers, and the refusals that hold for all of them."""

from freshbook.story import answers, copies_after, values_after
from tests.stories import HUGE, HUGER, PLAN, THINGS, StoryCase

MISSING_DESKS = (-1, -2, -3, -4, 3, 4, 20, HUGE, -HUGE)
MISSING_THINGS = ("hay", "", "Oats", "oat", "oats ", "0", "oats at 0 is -5")


class PassTest(StoryCase):
    def test_the_true_time_then(self):
        self.tell([(("pass", 0), 0), (("pass", 5), 5), (("pass", 0), 5), (("pass", 1), 6), (("pass", 94), 100)])

    def test_huge(self):
        self.tell([(("pass", HUGE), HUGE), (("pass", HUGER), HUGE + HUGER), (("pass", 1), HUGE + HUGER + 1)])

    def test_passes_while_all_are_stopped(self):
        self.tell([(("stop", 0), True), (("stop", 1), True), (("stop", 2), True), (("pass", 5), 5)])

    def test_each_story_begins_at_nought(self):
        for time in range(2):
            self.tell([(("pass", 5), 5)])


class ShiftTest(StoryCase):
    def test_to_the_bound_and_one_beyond(self):
        for bound in (0, 1, 2, HUGE, HUGER):
            for desk in (0, 1, 2):
                with self.subTest(bound=bound, desk=desk):
                    self.tell(
                        [
                            (("shift", desk, bound), True),
                            (("shift", desk, bound + 1), "no clock"),
                            (("shift", desk, -bound), True),
                            (("shift", desk, -bound - 1), "no clock"),
                            (("shift", desk, 0), True),
                            (("shift", desk, HUGER * 5), "no clock"),
                            (("shift", desk, -HUGER * 5), "no clock"),
                        ],
                        plan=(3, 10, bound),
                    )

    def test_to_the_bound_and_one_beyond_while_stopped(self):
        self.tell(
            [
                (("stop", 0), True),
                (("shift", 0, 2), True),
                (("shift", 0, 3), "no clock"),
                (("shift", 0, -2), True),
                (("shift", 0, -3), "no clock"),
            ]
        )

    def test_the_clock_goes_by_it_from_then_on(self):
        for offset in (-2, -1, 0, 1, 2):
            with self.subTest(offset=offset):
                deeds = [("shift", 0, offset), ("pass", 4), ("read", 1, "oats")]
                self.same(copies_after(PLAN, THINGS, deeds)[1], [("oats", -5, 0, 14 + offset)])

    def test_it_takes_the_place_of_the_earlier_offset(self):
        deeds = [("shift", 0, 2), ("shift", 0, 2), ("shift", 0, 1), ("read", 1, "oats")]
        self.same(copies_after(PLAN, THINGS, deeds)[1], [("oats", -5, 0, 11)])

    def test_nothing_is_done_beyond_the_bound(self):
        for offset in (3, -3, HUGE):
            deeds = [("shift", 0, 1), ("shift", 0, offset), ("read", 1, "oats")]
            self.same(copies_after(PLAN, THINGS, deeds)[1], [("oats", -5, 0, 11)])

    def test_other_desks_clocks_stay(self):
        deeds = [("shift", 1, 2), ("shift", 2, -2), ("read", 1, "oats"), ("read", 0, "rye")]
        self.same(
            copies_after(PLAN, THINGS, deeds),
            [[("rye", 7, 0, 12)], [("oats", -5, 0, 10)], []],
        )

    def test_a_shift_while_stopped_holds_when_it_comes_up(self):
        self.tell(
            [
                (("stop", 0), True),
                (("shift", 0, -2), True),
                (("wake", 0), True),
                (("change", 0, "oats", 1), ("waits", 12)),
            ]
        )

    def test_the_true_time_stays(self):
        self.tell([(("pass", 5), 5), (("shift", 0, 2), True), (("pass", 0), 5)])


class ReadTest(StoryCase):
    def test_own(self):
        self.tell([(("read", 0, "oats"), ("own", -5, 0)), (("read", 1, "rye"), ("own", 7, 0))])

    def test_lent_then_fresh_then_lent_once_more(self):
        self.tell(
            [
                (("read", 1, "oats"), ("lent", -5, 0)),
                (("read", 1, "oats"), ("fresh", -5, 0)),
                (("pass", 6), 6),
                (("read", 1, "oats"), ("fresh", -5, 0)),
                (("pass", 1), 7),
                (("read", 1, "oats"), ("lent", -5, 0)),
                (("read", 1, "oats"), ("fresh", -5, 0)),
            ]
        )

    def test_each_desk_is_lent_its_own(self):
        self.tell(
            [
                (("read", 1, "oats"), ("lent", -5, 0)),
                (("read", 2, "oats"), ("lent", -5, 0)),
                (("read", 2, "rye"), ("lent", 7, 0)),
                (("read", 0, "rye"), ("lent", 7, 0)),
            ]
        )

    def test_no_answer_where_the_keeper_is_stopped(self):
        self.tell(
            [
                (("stop", 0), True),
                (("read", 1, "oats"), "no answer"),
                (("read", 2, "rye"), ("lent", 7, 0)),
                (("wake", 0), True),
                (("read", 1, "oats"), ("lent", -5, 0)),
            ]
        )

    def test_not_now_where_a_change_waits(self):
        self.tell(
            [
                (("read", 1, "oats"), ("lent", -5, 0)),
                (("change", 0, "oats", 1), ("waits", 10)),
                (("read", 2, "oats"), "not now"),
                (("read", 2, "rye"), ("lent", 7, 0)),
            ]
        )


class ChangeTest(StoryCase):
    def test_changed(self):
        for desk in (0, 1, 2):
            with self.subTest(desk=desk):
                self.tell(
                    [
                        (("change", desk, "oats", 1), ("changed", 1)),
                        (("change", desk, "oats", 1), ("changed", 2)),
                        (("change", desk, "oats", 0), ("changed", 3)),
                        (("read", 0, "oats"), ("own", 0, 3)),
                        (("read", 1, "rye"), ("own", 7, 0)),
                    ]
                )

    def test_waits(self):
        for desk in (0, 2):
            with self.subTest(desk=desk):
                self.tell(
                    [
                        (("pass", 4), 4),
                        (("read", 1, "oats"), ("lent", -5, 0)),
                        (("change", desk, "oats", 1), ("waits", 14)),
                        (("read", 0, "oats"), ("own", -5, 0)),
                    ]
                )

    def test_no_answer(self):
        self.tell(
            [
                (("stop", 0), True),
                (("change", 1, "oats", 1), "no answer"),
                (("wake", 0), True),
                (("try", "oats"), "nothing"),
                (("read", 0, "oats"), ("own", -5, 0)),
            ]
        )

    def test_not_now(self):
        self.tell(
            [
                (("read", 1, "oats"), ("lent", -5, 0)),
                (("change", 0, "oats", 1), ("waits", 10)),
                (("change", 0, "oats", 2), "not now"),
                (("change", 2, "oats", 1), "not now"),
                (("change", 2, "rye", 3), ("changed", 1)),
            ]
        )


class TryTest(StoryCase):
    def test_nothing_waits(self):
        self.tell([(("try", "oats"), "nothing")])
        self.tell([(("change", 0, "oats", 1), ("changed", 1)), (("try", "oats"), "nothing")])

    def test_answered_like_a_change(self):
        self.tell(
            [
                (("read", 1, "oats"), ("lent", -5, 0)),
                (("change", 0, "oats", 1), ("waits", 10)),
                (("try", "oats"), ("waits", 10)),
                (("pass", 10), 10),
                (("try", "oats"), ("waits", 10)),
                (("try", "rye"), "nothing"),
                (("pass", 1), 11),
                (("try", "oats"), ("changed", 1)),
                (("try", "oats"), "nothing"),
                (("read", 0, "oats"), ("own", 1, 1)),
            ]
        )

    def test_no_answer_where_the_keeper_is_stopped(self):
        self.tell(
            [
                (("stop", 0), True),
                (("try", "oats"), "no answer"),
                (("try", "rye"), "nothing"),
                (("wake", 0), True),
                (("try", "oats"), "nothing"),
            ]
        )

    def test_no_answer_where_the_keeper_was_stopped_with_a_change_that_waited(self):
        self.tell(
            [
                (("read", 1, "oats"), ("lent", -5, 0)),
                (("change", 0, "oats", 1), ("waits", 10)),
                (("stop", 0), True),
                (("pass", 99), 99),
                (("try", "oats"), "no answer"),
            ]
        )

    def test_another_desk_that_is_stopped_does_not_matter(self):
        self.tell(
            [
                (("read", 1, "oats"), ("lent", -5, 0)),
                (("change", 2, "oats", 1), ("waits", 10)),
                (("stop", 2), True),
                (("stop", 1), True),
                (("pass", 11), 11),
                (("try", "oats"), ("changed", 1)),
            ]
        )


class BackTest(StoryCase):
    def test_true_where_it_had_one_else_false(self):
        self.tell(
            [
                (("back", 1, "oats"), False),
                (("back", 0, "oats"), False),
                (("read", 0, "oats"), ("own", -5, 0)),
                (("back", 0, "oats"), False),
                (("read", 1, "oats"), ("lent", -5, 0)),
                (("back", 2, "oats"), False),
                (("back", 1, "rye"), False),
                (("back", 1, "oats"), True),
                (("back", 1, "oats"), False),
                (("read", 1, "oats"), ("lent", -5, 0)),
            ]
        )

    def test_true_where_it_is_no_longer_fresh(self):
        self.tell([(("read", 1, "oats"), ("lent", -5, 0)), (("pass", 99), 99), (("back", 1, "oats"), True)])


class StopAndWakeTest(StoryCase):
    def test_twice(self):
        for desk in (0, 1, 2):
            with self.subTest(desk=desk):
                self.tell(
                    [
                        (("wake", desk), False),
                        (("stop", desk), True),
                        (("stop", desk), False),
                        (("wake", desk), True),
                        (("wake", desk), False),
                        (("stop", desk), True),
                        (("wake", desk), True),
                    ]
                )

    def test_each_desk_by_itself(self):
        self.tell(
            [
                (("stop", 0), True),
                (("wake", 1), False),
                (("stop", 2), True),
                (("stop", 1), True),
                (("wake", 0), True),
                (("stop", 1), False),
                (("wake", 2), True),
            ]
        )


def deeds_of(desk, thing):
    return [("read", desk, thing), ("change", desk, thing, 1), ("back", desk, thing)]


class RefusalTest(StoryCase):
    def test_no_desk(self):
        for desk in MISSING_DESKS:
            for deed in deeds_of(desk, "oats") + deeds_of(desk, "rye"):
                self.tell([(deed, "no desk")])
            self.tell([(("stop", desk), "no desk"), (("wake", desk), "no desk")])
            for offset in (0, 2, 3, -3, HUGE):
                self.tell([(("shift", desk, offset), "no desk")])

    def test_no_desk_in_a_yard_of_one(self):
        for desk in (-1, 1, 2):
            for deed in deeds_of(desk, "oats") + [("stop", desk), ("wake", desk), ("shift", desk, 0)]:
                self.tell([(deed, "no desk")], plan=(1, 10, 2), things=[("oats", 0, -5)])

    def test_no_thing(self):
        for thing in MISSING_THINGS:
            for desk in (0, 1, 2):
                for deed in deeds_of(desk, thing):
                    self.tell([(deed, "no thing")])
            self.tell([(("try", thing), "no thing")])

    def test_no_thing_where_there_is_none_at_all(self):
        for deed in deeds_of(0, "oats") + [("try", "oats")]:
            self.tell([(deed, "no thing")], things=[])

    def test_neither_desk_nor_thing(self):
        for desk in MISSING_DESKS:
            for thing in MISSING_THINGS:
                for deed in deeds_of(desk, thing):
                    self.tell([(deed, "no desk")])

    def test_stopped(self):
        for desk in (0, 1, 2):
            for thing in ("oats", "rye"):
                for deed in deeds_of(desk, thing):
                    self.tell([(("stop", desk), True), (deed, "stopped"), (("wake", desk), True)])

    def test_stopped_with_a_copy_that_it_had(self):
        for deed in deeds_of(1, "oats"):
            self.tell([(("read", 1, "oats"), ("lent", -5, 0)), (("stop", 1), True), (deed, "stopped")])

    def test_stopped_where_the_keeper_is_stopped_too(self):
        for deed in deeds_of(1, "oats"):
            self.tell([(("stop", 0), True), (("stop", 1), True), (deed, "stopped")])

    def test_stopped_where_a_change_waits(self):
        for deed in deeds_of(2, "oats"):
            self.tell(
                [
                    (("read", 1, "oats"), ("lent", -5, 0)),
                    (("change", 0, "oats", 1), ("waits", 10)),
                    (("stop", 2), True),
                    (deed, "stopped"),
                ]
            )

    def test_no_thing_where_the_desk_is_stopped_too(self):
        for thing in MISSING_THINGS:
            for deed in deeds_of(1, thing):
                self.tell([(("stop", 1), True), (deed, "no thing")])

    def test_no_desk_and_no_thing_while_all_are_stopped(self):
        stops = [(("stop", desk), True) for desk in (0, 1, 2)]
        for deed in deeds_of(3, "oats") + deeds_of(-1, "hay"):
            self.tell(stops + [(deed, "no desk")])
        self.tell(stops + [(("try", "hay"), "no thing")])


BEFORE = [
    ("shift", 0, 1),
    ("read", 1, "oats"),
    ("pass", 3),
    ("read", 2, "oats"),
    ("read", 2, "rye"),
    ("change", 0, "oats", 1),
    ("stop", 2),
]
BEHIND = [
    ("read", 1, "oats"),
    ("try", "oats"),
    ("wake", 2),
    ("read", 2, "oats"),
    ("back", 1, "oats"),
    ("try", "oats"),
    ("change", 1, "rye", 3),
    ("pass", 20),
    ("try", "oats"),
    ("try", "rye"),
    ("read", 2, "rye"),
    ("stop", 0),
    ("wake", 0),
    ("change", 0, "oats", 4),
]
REFUSED = (
    [(deed, "no desk") for desk in (-1, -2, -3, 3, HUGE) for deed in deeds_of(desk, "oats") + deeds_of(desk, "hay")]
    + [(("shift", desk, 0), "no desk") for desk in (-1, -2, -3, 3)]
    + [(("stop", desk), "no desk") for desk in (-1, -2, -3, 3)]
    + [(("wake", desk), "no desk") for desk in (-1, -2, -3, 3)]
    + [(deed, "no thing") for desk in (0, 1, 2) for deed in deeds_of(desk, "hay")]
    + [(("try", "hay"), "no thing")]
    + [(deed, "stopped") for thing in ("oats", "rye") for deed in deeds_of(2, thing)]
    + [(("shift", 0, 3), "no clock"), (("shift", 1, -3), "no clock"), (("shift", 2, 3), "no clock")]
    + [(("stop", 2), False), (("wake", 0), False), (("wake", 1), False)]
)


class NothingIsDoneTest(StoryCase):
    def test_the_story_goes_on_as_without_the_deed(self):
        plain = answers(PLAN, THINGS, BEFORE + BEHIND)
        for deed, answer in REFUSED:
            with self.subTest(deed=deed):
                got = answers(PLAN, THINGS, BEFORE + [deed] + BEHIND)
                self.same(got[len(BEFORE)], answer)
                self.same(got[: len(BEFORE)] + got[len(BEFORE) + 1 :], plain)

    def test_values_and_copies_are_as_they_were(self):
        values = values_after(PLAN, THINGS, BEFORE)
        copies = copies_after(PLAN, THINGS, BEFORE)
        for deed, answer in REFUSED:
            with self.subTest(deed=deed):
                self.same(values_after(PLAN, THINGS, BEFORE + [deed]), values)
                self.same(copies_after(PLAN, THINGS, BEFORE + [deed]), copies)
