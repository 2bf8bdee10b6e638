"""The least odd round [2, 3, 7]."""

import unittest
from itertools import permutations

from elsetold.errors import NoWeb
from elsetold.webs import odd_round
from tests.support import ODD_THINGS, WEB, beside, folk_of, listed, some_webs, tupled, unchanged


def slow_odd_round(web):
    """The least odd round among all rounds that have nobody twice."""
    lengths = {}
    for one, other, beats in web[1]:
        lengths[(one, other)] = lengths[(other, one)] = beats
    found = []
    for many in range(3, len(web[0]) + 1):
        for folk in permutations(web[0], many):
            steps = list(zip(folk, folk[1:] + folk[:1]))
            if folk[0] == min(folk) and all([step in lengths for step in steps]):
                beats = sum([lengths[step] for step in steps])
                if beats % 2:
                    found.append((beats, folk[0]))
    return min(found, default=None)


def least_odd_walk_back(web, name):
    """The least odd number of beats of a walk from a name back to it, a beat at a time."""
    near = beside(web)
    at = {(name, name, 0)}
    for beats in range(1, 2 * len(near) + 2):
        at = {there for here in at for there in near[here]}
        if beats % 2 and (name, name, 0) in at:
            return beats
    return None


class OddRound(unittest.TestCase):
    def told(self, web):
        told = unchanged(self, odd_round, web)
        self.assertIn(told.__class__, [tuple, None.__class__])
        return told

    def test_none_where_all_rounds_are_even(self):
        self.assertIsNone(self.told((["ann"], [])))
        self.assertIsNone(self.told((["ann", "bob"], [("ann", "bob", 1)])))
        self.assertIsNone(self.told((["ann", "bob"], [("ann", "bob", 10 ** 12 - 1)])))
        self.assertIsNone(self.told(WEB))
        four = ["a", "b", "c", "d"]
        self.assertIsNone(self.told((four, [("a", "b", 1), ("a", "d", 1), ("b", "c", 1), ("c", "d", 1)])))

    def test_ordinary(self):
        three = ["a", "b", "c"]
        self.assertEqual(self.told((three, [("a", "b", 1), ("a", "c", 1), ("b", "c", 1)])), (3, "a"))
        self.assertEqual(self.told((three, [("a", "b", 2), ("a", "c", 4), ("b", "c", 9)])), (15, "a"))
        self.assertIsNone(self.told((three, [("a", "b", 2), ("a", "c", 4), ("b", "c", 8)])))

    def test_the_name_is_on_the_round(self):
        # Folk a, b and c only lead up to it: a walk from them and back is longer.
        folk = ["a", "b", "c", "d", "e", "f"]
        ways = [("a", "b", 1), ("b", "f", 1), ("c", "d", 1), ("d", "e", 1), ("d", "f", 1), ("e", "f", 1)]
        self.assertEqual(self.told((folk, ways)), (3, "d"))

    def test_the_first_name_of_several_rounds(self):
        folk = ["a", "b", "c", "d", "e", "f"]
        ways = [("a", "c", 1), ("a", "e", 1), ("b", "d", 1), ("b", "f", 1), ("c", "e", 3), ("d", "f", 3)]
        self.assertEqual(self.told((folk, ways)), (5, "a"))
        ways[4] = ("c", "e", 5)
        self.assertEqual(self.told((folk, ways)), (5, "b"))

    def test_an_even_round_that_is_less_does_not_count(self):
        folk = ["a", "b", "c", "d"]
        ways = [("a", "b", 1), ("a", "c", 2), ("a", "d", 9), ("b", "c", 1), ("b", "d", 9)]
        self.assertEqual(self.told((folk, ways)), (19, "a"))

    def test_far(self):
        end = 10 ** 12
        folk = ["a", "b", "c"]
        self.assertEqual(self.told((folk, [("a", "b", end), ("a", "c", end), ("b", "c", end - 1)])), (3 * end - 1, "a"))
        folk = folk_of(59)
        ways = [(folk[at], folk[at + 1], end - 1) for at in range(58)] + [(folk[0], folk[58], end - 1)]
        self.assertEqual(self.told((folk, sorted(ways))), (59 * (end - 1), "aa"))

    def test_sixty_folk_and_a_hundred_and_fifty_ways(self):
        folk = folk_of(60)
        ways = [(folk[at], folk[at + 1], 4) for at in range(59)] + [(folk[at], folk[at + 2], 2) for at in range(58)]
        ways += [(folk[at], folk[at + 9], 6) for at in range(32)] + [("fa", "fj", 1)]
        self.assertEqual(len(ways), 150)
        self.assertEqual(self.told((folk, sorted(ways))), (1 + 4 * 2 + 4, "fa"))

    def test_as_all_rounds_of_small_webs(self):
        for web in some_webs(31, 250, 6, 6):
            self.assertEqual(self.told(web), slow_odd_round(web))

    def test_as_walks_back(self):
        for web in some_webs(37, 60, 7, 4):
            backs = [(least_odd_walk_back(web, name), name) for name in web[0]]
            self.assertEqual(self.told(web), min([back for back in backs if back[0]], default=None))

    def test_by_name_and_with_lists(self):
        web = (["a", "b", "c"], [("a", "b", 1), ("a", "c", 1), ("b", "c", 1)])
        self.assertEqual(odd_round(web=web), (3, "a"))
        self.assertEqual(self.told(listed(web)), (3, "a"))
        self.assertEqual(self.told(tupled(web)), (3, "a"))

    def test_no_web(self):
        for thing in ODD_THINGS:
            with self.assertRaises(NoWeb):
                odd_round(thing)
