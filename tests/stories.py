"""What the tests of stories share."""

import unittest

from freshbook.story import answers

HUGE = 10 ** 100
HUGER = 10 ** 130

# Three desks, lent for ten, clocks within two: a copy lent at reading r is fresh up to reading r + 6.
PLAN = (3, 10, 2)
# Not by name, so that an order by name is seen.
THINGS = [("rye", 1, 7), ("oats", 0, -5)]


class StoryCase(unittest.TestCase):
    maxDiff = None

    def same(self, got, expected):
        # By their written form, where True is not 1 and a tuple not a list.
        self.assertEqual(repr(got), repr(expected))

    def tell(self, steps, plan=PLAN, things=THINGS):
        """Tells a story of deeds, each with the answer that is asked for; gives back the deeds."""
        deeds = [deed for deed, answer in steps]
        got = answers(plan, list(things), list(deeds))
        self.assertEqual(list(zip(deeds, map(repr, got))), [(deed, repr(answer)) for deed, answer in steps])
        self.assertEqual(len(got), len(deeds))
        return deeds
