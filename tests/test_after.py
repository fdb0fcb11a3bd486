"""What is there behind a story, the sizes that stories may have, and that what is handed in stays as it was."""

import copy

from freshbook.story import answers, copies_after, values_after
from tests.stories import HUGER, PLAN, THINGS, StoryCase

FUNCTIONS = (answers, values_after, copies_after)


class AfterTest(StoryCase):
    def test_no_things_and_no_deeds(self):
        self.same(answers(PLAN, [], []), [])
        self.same(values_after(PLAN, [], []), [])
        self.same(copies_after(PLAN, [], []), [[], [], []])
        self.same(copies_after((1, 1, 0), [], []), [[]])

    def test_no_deeds(self):
        self.same(answers(PLAN, THINGS, []), [])
        self.same(values_after(PLAN, THINGS, []), [("oats", -5, 0), ("rye", 7, 0)])
        self.same(copies_after(PLAN, THINGS, []), [[], [], []])

    def test_no_things(self):
        deeds = [("pass", 3), ("shift", 0, 1), ("stop", 1), ("wake", 1), ("read", 0, "oats")]
        self.same(answers(PLAN, [], deeds), [3, True, True, True, "no thing"])
        self.same(values_after(PLAN, [], deeds), [])
        self.same(copies_after(PLAN, [], deeds), [[], [], []])

    def test_by_name_whatever_the_order(self):
        names = ["", "10", "9", "Z", "a", "a b", "ab", "b"]
        told = [(names[place], 0, value) for value, place in enumerate((7, 0, 4, 6, 3, 1, 2, 5))]
        of_name = {name: value for name, keeper, value in told}
        for things in (told, told[::-1], sorted(told), told[3:] + told[:3]):
            deeds = [("read", 1, name) for name, keeper, value in things]
            self.same(values_after(PLAN, things, deeds), [(name, of_name[name], 0) for name in names])
            self.same(
                copies_after(PLAN, things, deeds), [[], [(name, of_name[name], 0, 10) for name in names], []]
            )
            self.same(copies_after(PLAN, things, deeds[::-1]), copies_after(PLAN, things, deeds))
            self.same(answers(PLAN, things, deeds), [("lent", value, 0) for name, keeper, value in things])

    def test_a_name_that_is_the_empty_text(self):
        self.tell(
            [
                (("read", 0, ""), ("own", 4, 0)),
                (("read", 1, ""), ("lent", 4, 0)),
                (("change", 2, "", 5), ("waits", 10)),
                (("back", 1, ""), True),
                (("try", ""), ("changed", 1)),
            ],
            things=[("", 0, 4)],
        )

    def test_names_of_any_signs(self):
        for name in ("a b", "0", "\n", "Hafer", "\u00e4\u4e2d", "no thing"):
            self.tell(
                [(("read", 1, name), ("lent", 4, 0)), (("change", 1, name, 5), ("changed", 1))], things=[(name, 0, 4)]
            )

    def test_the_version_is_one_more_with_every_change(self):
        deeds = [("change", number % 3, "oats", number) for number in range(1, 8)]
        for many in range(8):
            self.same(values_after(PLAN, THINGS, deeds[:many])[0], ("oats", many or -5, many))

    def test_a_change_that_waits_is_no_value_yet(self):
        deeds = [("read", 1, "oats"), ("change", 0, "oats", 1), ("pass", 99)]
        self.same(values_after(PLAN, THINGS, deeds)[0], ("oats", -5, 0))

    def test_copies_that_are_no_longer_fresh_are_there(self):
        deeds = [("read", 1, "oats"), ("read", 2, "oats"), ("pass", 99), ("read", 2, "rye"), ("change", 0, "oats", 1)]
        self.same(
            copies_after(PLAN, THINGS, deeds),
            [[], [("oats", -5, 0, 10)], [("oats", -5, 0, 10), ("rye", 7, 0, 109)]],
        )

    def test_a_list_for_each_desk_of_its_own(self):
        for count in (1, 2, 20, 25):
            got = copies_after((count, 10, 2), [("oats", 0, 1)], [])
            self.same(got, [[]] * count)
            got[0].append("changed")
            self.same(got[1:], [[]] * (count - 1))

    def test_values_and_copies_of_a_long_story(self):
        deeds = [
            ("shift", 0, -1),
            ("read", 1, "oats"),
            ("read", 2, "oats"),
            ("read", 2, "rye"),
            ("read", 0, "rye"),
            ("pass", 4),
            ("change", 2, "rye", 9),
            ("stop", 1),
            ("pass", 30),
            ("wake", 1),
            ("change", 1, "oats", 8),
            ("read", 1, "oats"),
            ("read", 0, "rye"),
        ]
        self.same(
            answers(PLAN, THINGS, deeds)[6:],
            [("waits", 10), True, 34, True, ("changed", 1), ("lent", 8, 1), ("lent", 7, 0)],
        )
        self.same(values_after(PLAN, THINGS, deeds), [("oats", 8, 1), ("rye", 7, 0)])
        self.same(
            copies_after(PLAN, THINGS, deeds), [[("rye", 7, 0, 44)], [("oats", 8, 1, 43)], [("oats", -5, 0, 9)]]
        )


class SizesTest(StoryCase):
    def test_one_desk(self):
        self.tell(
            [
                (("read", 0, "oats"), ("own", 3, 0)),
                (("back", 0, "oats"), False),
                (("change", 0, "oats", 4), ("changed", 1)),
                (("stop", 0), True),
                (("read", 0, "oats"), "stopped"),
                (("try", "oats"), "no answer"),
                (("wake", 0), True),
                (("change", 0, "oats", 5), ("waits", 1)),
                (("pass", 2), 2),
                (("try", "oats"), ("changed", 2)),
            ],
            plan=(1, 1, 0),
            things=[("oats", 0, 3)],
        )

    def test_twenty_desks_and_more(self):
        for count in (20, 25):
            steps = [(("read", desk, "oats"), ("lent", 3, 0)) for desk in range(count - 1)]
            steps = steps + [(("change", count - 1, "oats", 4), ("waits", 10))]
            steps = steps + [(("back", desk, "oats"), True) for desk in range(count - 1)]
            steps = steps + [(("try", "oats"), ("changed", 1)), (("stop", count), "no desk")]
            self.tell(steps, plan=(count, 10, 2), things=[("oats", count - 1, 3)])

    def test_two_hundred_things_and_more(self):
        things = [(f"n{number:03}", number % 3, number) for number in range(250)]
        deeds = [("change", 0, name, -value) for name, keeper, value in things]
        self.same(answers(PLAN, things, deeds), [("changed", 1)] * 250)
        self.same(values_after(PLAN, things, deeds), [(name, -value, 1) for name, keeper, value in things])
        behind_a_stop = answers(PLAN, things, [("stop", 0), ("wake", 0)] + deeds)
        self.same(behind_a_stop[2:5], [("waits", 14), ("changed", 1), ("changed", 1)])

    def test_two_hundred_deeds_and_more(self):
        self.same(answers(PLAN, THINGS, [("pass", 1)] * 250), list(range(1, 251)))

    def test_huge_values(self):
        for value in (HUGER, -HUGER, 10 ** 99, -(10 ** 99)):
            self.tell(
                [
                    (("read", 0, "oats"), ("own", value, 0)),
                    (("read", 1, "oats"), ("lent", value, 0)),
                    (("read", 1, "oats"), ("fresh", value, 0)),
                    (("change", 1, "oats", -value), ("changed", 1)),
                    (("read", 0, "oats"), ("own", -value, 1)),
                ],
                things=[("oats", 0, value)],
            )


DEEDS = [
    ("read", 1, "oats"),
    ("change", 2, "oats", 1),
    ("shift", 0, 2),
    ("pass", 12),
    ("try", "oats"),
    ("read", 0, "rye"),
    ("back", 0, "rye"),
    ("stop", 0),
    ("wake", 0),
    ("read", 9, "rye"),
    ("read", 0, "hay"),
]


class HandedInTest(StoryCase):
    def test_all_is_as_it_was(self):
        for function in FUNCTIONS:
            with self.subTest(function.__name__):
                things, deeds = copy.deepcopy(THINGS), copy.deepcopy(DEEDS)
                function(PLAN, things, deeds)
                self.same(things, THINGS)
                self.same(deeds, DEEDS)

    def test_a_story_told_twice_is_the_same(self):
        for function in FUNCTIONS:
            with self.subTest(function.__name__):
                self.same(function(PLAN, THINGS, DEEDS), function(PLAN, THINGS, DEEDS))

    def test_what_is_handed_in_is_not_kept(self):
        for function in FUNCTIONS:
            with self.subTest(function.__name__):
                things, deeds = list(THINGS), list(DEEDS)
                first = function(PLAN, things, deeds)
                written = repr(first)
                things.clear()
                deeds.clear()
                self.assertEqual(repr(first), written)
                self.assertEqual(repr(function(PLAN, list(THINGS), list(DEEDS))), written)

    def test_what_is_given_back_is_not_kept(self):
        for function in FUNCTIONS:
            with self.subTest(function.__name__):
                first = function(PLAN, THINGS, DEEDS)
                written = repr(first)
                first.clear()
                self.assertEqual(repr(function(PLAN, THINGS, DEEDS)), written)

    def test_other_functions_between_do_not_matter(self):
        alone = [repr(function(PLAN, THINGS, DEEDS)) for function in FUNCTIONS]
        for function in FUNCTIONS[::-1]:
            function((9, 1, 9), [("oats", 8, 1)], [("change", 0, "oats", 5), ("pass", 5)])
        self.assertEqual([repr(function(PLAN, THINGS, DEEDS)) for function in FUNCTIONS], alone)
