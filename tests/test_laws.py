"""What holds in any story, over many that are drawn with seeds of the tests' own."""

import random

from freshbook.story import answers, copies_after, values_after
from freshbook.times import is_fresh, longest_wait
from tests.stories import StoryCase

STORIES = 250
NAMES = ("oats", "rye", "hay")


class Drawn:
    """A plan, things and deeds, drawn with a seed."""

    def __init__(self, seed, stops=True):
        self.chance = random.Random(seed)
        # A short length beside the bound in some, so that all of fresh, lent and held up come about.
        self.count = self.chance.randint(2, 5)
        self.length = self.chance.choice((1, 4, 12, 12, 20, 20))
        self.bound = self.chance.choice((0, 1, 2, 3))
        self.plan = (self.count, self.length, self.bound)
        names = NAMES[: self.chance.randint(1, 3)]
        self.things = [(name, self.chance.randrange(self.count), self.chance.randint(-9, 9)) for name in names]
        self.stops = stops
        self.deeds = [self.deed() for number in range(self.chance.randint(20, 60))]

    def deed(self):
        kinds = ["pass", "pass", "shift", "read", "read", "read", "change", "change", "try", "try", "back"]
        if self.stops:
            kinds = kinds + ["stop", "wake", "wake"]
        kind = self.chance.choice(kinds)
        desk = self.chance.randrange(self.count)
        name = self.chance.choice(self.things)[0]
        if kind == "pass":
            return (kind, self.chance.randint(0, 2 + self.length // 2))
        if kind == "shift":
            between = self.chance.randint(-self.bound, self.bound)
            return (kind, desk, self.chance.choice((-self.bound, self.bound, between)))
        if kind == "try":
            return (kind, name)
        if kind in ("stop", "wake"):
            return (kind, desk)
        if kind == "change":
            return (kind, desk, name, self.chance.randint(-99, 99))
        return (kind, desk, name)

    def answers(self):
        return answers(self.plan, self.things, self.deeds)

    def values_before(self, number):
        values = values_after(self.plan, self.things, self.deeds[:number])
        return {name: (value, version) for name, value, version in values}


def true_times(told):
    """The true time ahead of each deed."""
    times = [0]
    for deed in told.deeds:
        times.append(times[-1] + (deed[1] if deed[0] == "pass" else 0))
    return times


def is_kind(answer, *words):
    return isinstance(answer, tuple) and answer[0] in words


class AnyStoryTest(StoryCase):
    def test_what_is_read_is_what_the_thing_is(self):
        seen = dict.fromkeys(("own", "fresh", "lent"), 0)
        for seed in range(STORIES):
            told = Drawn(seed)
            for number, answer in enumerate(told.answers()):
                if is_kind(answer, *seen):
                    seen[answer[0]] += 1
                    now = told.values_before(number)[told.deeds[number][2]]
                    self.same((seed, number, answer[1:]), (seed, number, now))
        self.assertGreater(min(seen.values()), 100, seen)

    def test_ahead_of_a_change_no_other_desk_has_a_copy_that_might_be_fresh(self):
        changes = 0
        for seed in range(STORIES):
            told = Drawn(seed)
            times = true_times(told)
            asked = {}
            for number, answer in enumerate(told.answers()):
                deed = told.deeds[number]
                if deed[0] == "change" and is_kind(answer, "changed", "waits"):
                    asked[deed[2]] = deed[1]
                if is_kind(answer, "changed"):
                    changes += 1
                    name = deed[2] if deed[0] == "change" else deed[1]
                    self.check_copies(told, number, times[number], name, asked[name])
        self.assertGreater(changes, 500)

    def check_copies(self, told, number, time, name, asker):
        for desk, copies in enumerate(copies_after(told.plan, told.things, told.deeds[:number])):
            for copy_name, value, version, until in copies:
                if copy_name == name and desk != asker:
                    # The clock that is behind most finds a copy fresh longest.
                    self.assertFalse(is_fresh(time - told.bound, until, told.bound), (told.plan, told.deeds, number))

    def test_values_and_versions_go_by_changes_alone(self):
        for seed in range(STORIES):
            told = Drawn(seed)
            waiting = {}
            now = told.values_before(0)
            for number, answer in enumerate(told.answers()):
                deed = told.deeds[number]
                if deed[0] == "change" and is_kind(answer, "changed", "waits"):
                    waiting[deed[2]] = deed[3]
                if is_kind(answer, "changed"):
                    name = deed[2] if deed[0] == "change" else deed[1]
                    now[name] = (waiting[name], now[name][1] + 1)
                    self.same(answer[1], now[name][1])
                self.assertEqual(told.values_before(number + 1), now, (seed, number))

    def test_a_change_that_waits_can_be_done_behind_the_longest_wait(self):
        done = 0
        for seed in range(STORIES):
            told = Drawn(seed)
            for number, answer in enumerate(told.answers()):
                deed = told.deeds[number]
                if is_kind(answer, "waits"):
                    done += 1
                    self.check_it_can_be_done(told, number, deed[2] if deed[0] == "change" else deed[1])
        self.assertGreater(done, 200)

    def check_it_can_be_done(self, told, number, name):
        wakes = [("wake", desk) for desk in range(told.count)]
        wait = longest_wait(told.length, told.bound) + 1
        back = [("shift", desk, -told.bound) for desk in range(told.count)]
        reads = [("read", desk, name) for desk in range(told.count)]
        between = wakes + reads + [("pass", wait - 1)] + reads + back + [("pass", 1)] + reads
        deeds = told.deeds[: number + 1] + between + [("try", name)]
        version = told.values_before(number + 1)[name][1]
        self.same(answers(told.plan, told.things, deeds)[-1], ("changed", version + 1))

    def test_no_attempt_is_held_up_beyond_the_longest_wait(self):
        for seed in range(STORIES):
            told = Drawn(seed, stops=False)
            times = true_times(told)
            began = {}
            for number, answer in enumerate(told.answers()):
                deed = told.deeds[number]
                if deed[0] == "change" and is_kind(answer, "waits"):
                    began[deed[2]] = times[number]
                if deed[0] == "try" and is_kind(answer, "waits"):
                    waited = times[number] - began[deed[1]]
                    self.assertLessEqual(waited, longest_wait(told.length, told.bound), (seed, number))


class LongestWaitTest(StoryCase):
    def test_it_is_reached_and_not_gone_beyond(self):
        for length, bound in ((1, 0), (10, 0), (10, 2), (3, 5), (10 ** 100, 10 ** 99)):
            wait = length + 4 * bound
            until = length + 3 * bound
            with self.subTest(length=length, bound=bound):
                self.tell(
                    [
                        (("shift", 0, bound), True),
                        (("stop", 0), True),
                        (("wake", 0), True),
                        (("change", 0, "oats", 1), ("waits", until)),
                        (("shift", 0, -bound), True),
                        (("pass", wait), wait),
                        (("try", "oats"), ("waits", until)),
                        (("pass", 1), wait + 1),
                        (("try", "oats"), ("changed", 1)),
                    ],
                    plan=(2, length, bound),
                    things=[("oats", 0, 3)],
                )


def is_about(deed, name):
    if deed[0] == "try":
        return deed[1] == name
    if deed[0] in ("read", "change", "back"):
        return deed[2] == name
    return False


class OwnWayTest(StoryCase):
    def test_answers_for_one_thing_are_the_same_without_the_deeds_about_another(self):
        pairs = 0
        for seed in range(STORIES):
            told = Drawn(seed)
            for name, keeper, value in told.things[1:]:
                pairs += 1
                kept = [deed for deed in told.deeds if not is_about(deed, name)]
                expected = [
                    answer for deed, answer in zip(told.deeds, told.answers()) if not is_about(deed, name)
                ]
                self.same(answers(told.plan, told.things, kept), expected)
        self.assertGreater(pairs, 100)

    def test_answers_values_and_copies_are_the_same_without_another_thing(self):
        for seed in range(STORIES):
            told = Drawn(seed)
            name = told.things[0][0]
            things = told.things[:1]
            others = [other for other, keeper, value in told.things[1:]]
            kept = [deed for deed in told.deeds if not any(is_about(deed, other) for other in others)]
            expected = [answer for deed, answer in zip(told.deeds, told.answers()) if deed in kept]
            self.same(answers(told.plan, things, kept), expected)
            values = values_after(told.plan, told.things, told.deeds)
            self.same(values_after(told.plan, things, kept), [row for row in values if row[0] == name])
            copies = copies_after(told.plan, told.things, told.deeds)
            self.same(
                copies_after(told.plan, things, kept), [[row for row in rows if row[0] == name] for rows in copies]
            )

    def test_the_order_in_which_things_are_told_does_not_matter(self):
        for seed in range(STORIES):
            told = Drawn(seed)
            for function in (answers, values_after, copies_after):
                self.same(
                    function(told.plan, told.things[::-1], told.deeds), function(told.plan, told.things, told.deeds)
                )


def later(deed, answer, many):
    if deed[0] == "pass":
        return answer + many
    if is_kind(answer, "waits"):
        return ("waits", answer[1] + many)
    return answer


class LaterStoryTest(StoryCase):
    def test_a_story_begun_later_is_the_same_but_for_the_times(self):
        for seed in range(STORIES):
            told = Drawn(seed)
            for many in (1, 7, 10 ** 100):
                deeds = [("pass", many)] + told.deeds
                expected = [later(deed, answer, many) for deed, answer in zip(told.deeds, told.answers())]
                self.same(answers(told.plan, told.things, deeds), [many] + expected)
                self.same(
                    values_after(told.plan, told.things, deeds), values_after(told.plan, told.things, told.deeds)
                )
                copies = copies_after(told.plan, told.things, told.deeds)
                self.same(
                    copies_after(told.plan, told.things, deeds),
                    [[row[:3] + (row[3] + many,) for row in rows] for rows in copies],
                )
