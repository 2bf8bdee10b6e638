"""What is a web, and what is none [2, 3, 5]."""

import unittest
from unittest.mock import ANY

from elsetold.beats import beat_by_beat, hearers_at
from elsetold.errors import NoWeb
from elsetold.webs import is_web, neighbours, odd_round, parts
from tests.support import ODD_THINGS, WEB, folk_of, listed, some_webs, tupled, unchanged

TWO = ["ann", "bob"]


def ways_of(folk, many):
    """The first so many ways of one beat among the folk."""
    return [(one, other, 1) for one in folk for other in folk if one < other][:many]


class IsWeb(unittest.TestCase):
    def assert_web(self, thing):
        self.assertIs(unchanged(self, is_web, thing), True)

    def assert_none(self, thing):
        self.assertIs(unchanged(self, is_web, thing), False)
        for call in [lambda: parts(thing), lambda: odd_round(thing), lambda: neighbours(thing, None),
                     lambda: beat_by_beat(thing, None), lambda: hearers_at(thing, None, None)]:
            with self.assertRaises(NoWeb) as caught:
                call()
            self.assertIs(caught.exception.__class__, NoWeb)

    def test_ordinary_webs(self):
        self.assert_web(WEB)
        for web in some_webs(5, 40, 9, 20):
            self.assert_web(web)

    def test_it_is_asked_by_name(self):
        self.assertIs(is_web(thing=WEB), True)

    def test_lists_and_tuples_stand_for_one_another(self):
        for web in [listed(WEB), tupled(WEB), (WEB[0], tupled(WEB[1])), [WEB[0], listed(WEB[1])]]:
            self.assert_web(web)
        mixed = [list(way) if at % 2 else way for at, way in enumerate(WEB[1])]
        self.assert_web((WEB[0], mixed))

    def test_how_many_folk(self):
        self.assert_web((["ann"], []))
        self.assert_web((folk_of(60), []))
        self.assert_none((folk_of(61), []))
        self.assert_none(([], []))

    def test_how_many_ways(self):
        folk = folk_of(60)
        self.assert_web((folk, []))
        self.assert_web((folk, ways_of(folk, 150)))
        self.assert_none((folk, ways_of(folk, 151)))

    def test_names(self):
        for name in ["a", "z", "abcdefgh", "zzzzzzzz", "m"]:
            self.assert_web(([name], []))
        for name in ["", "abcdefghi", "A", "aB", "a b", " a", "a ", "a1", "1", "a-b", "a\n", "\n", "_", "`", "{",
                     "\u00e4", "a\u00e4", "\u0430", "\uff41", "\u00aa", "\ud800", None, 1, True, b"a", ["a"], ("a",)]:
            self.assert_none(([name], []))
            self.assert_none((["a", name], []))

    def test_folk_rise_and_are_unlike(self):
        self.assert_web((["a", "aa", "ab", "b"], []))
        for folk in [["b", "a"], ["a", "a"], ["aa", "a"], ["a", "c", "b"], ["a", "b", "b"], ["a", "b", "a"]]:
            self.assert_none((folk, []))

    def test_beats_of_a_way(self):
        for beats in [1, 2, 10 ** 12 - 1, 10 ** 12]:
            self.assert_web((TWO, [("ann", "bob", beats)]))
        for beats in [0, -1, 10 ** 12 + 1, 10 ** 39, 10 ** 5000, True, False, None, "1", b"1", [1], (), {}]:
            self.assert_none((TWO, [("ann", "bob", beats)]))

    def test_ways_turned_about_twice_to_oneself_to_nobody(self):
        self.assert_none((TWO, [("bob", "ann", 1)]))
        self.assert_none((TWO, [("ann", "bob", 1), ("ann", "bob", 1)]))
        self.assert_none((TWO, [("ann", "bob", 1), ("ann", "bob", 2)]))
        self.assert_none((TWO, [("ann", "bob", 2), ("ann", "bob", 1)]))
        self.assert_none((TWO, [("ann", "bob", 1), ("bob", "ann", 1)]))
        self.assert_none((TWO, [("ann", "ann", 1)]))
        self.assert_none((TWO, [("ann", "cat", 1)]))
        self.assert_none((TWO, [("aaa", "bob", 1)]))
        self.assert_none((["ann"], [("ann", "bob", 1)]))

    def test_ways_out_of_order(self):
        three = ["ann", "bob", "cat"]
        self.assert_web((three, [("ann", "bob", 9), ("ann", "cat", 5), ("bob", "cat", 1)]))
        self.assert_none((three, [("ann", "cat", 1), ("ann", "bob", 1)]))
        self.assert_none((three, [("ann", "cat", 1), ("ann", "bob", 2), ("bob", "cat", 3)]))
        self.assert_none((three, [("bob", "cat", 1), ("ann", "bob", 2)]))
        self.assert_none((three, [["ann", "cat", 1], ("ann", "bob", 1)]))

    def test_ways_of_another_form(self):
        for way in [("ann", "bob"), ("ann", "bob", 1, 1), ("ann",), (), "ann", ("ann", 1, "bob"), (1, "ann", "bob"),
                    ("ann", ["bob"], 1), (["ann"], "bob", 1), (None, "bob", 1), ("ann", None, 1)]:
            self.assert_none((TWO, [way]))

    def test_more_or_less_than_folk_and_ways(self):
        self.assert_none((TWO,))
        self.assert_none((TWO, [], []))
        self.assert_none([TWO, [], None])
        self.assert_none({0: TWO, 1: []})
        self.assert_none({"folk": TWO, "ways": []})

    def test_odd_things_as_a_web(self):
        for thing in ODD_THINGS:
            self.assert_none(thing)

    def test_odd_things_within_a_web(self):
        for thing in ODD_THINGS:
            self.assertIs(is_web((thing, [])), thing == ["ann"])
            self.assertIs(is_web((TWO, thing)), thing == [] or thing == ())
            self.assertIs(is_web((["a", thing, "b"], [])), thing == "ann")
            self.assertIs(is_web((TWO, [(thing, "bob", 7)])), thing == "ann")
            self.assert_none((TWO, [thing]))
            self.assert_none((TWO, [("ann", thing, 7)]))
            good = isinstance(thing, int) and not isinstance(thing, bool) and 1 <= thing <= 10 ** 12
            self.assertIs(is_web((TWO, [("ann", "bob", thing)])), good)

    def test_a_thing_that_is_equal_to_anything(self):
        for thing in [ANY, (ANY, []), ([ANY], []), (TWO, ANY), (TWO, [ANY]), (TWO, [(ANY, "bob", 1)]),
                      (TWO, [("ann", ANY, 1)]), (TWO, [("ann", "bob", ANY)])]:
            self.assert_none(thing)

    def test_folk_as_a_text_or_a_dict(self):
        self.assert_none(("ann", []))
        self.assert_none(("ab", []))
        self.assert_none(({"ann": 1}, []))
        self.assert_none(({"ann"}, []))
        self.assert_none((iter(["ann"]), []))
        self.assert_none((TWO, {("ann", "bob", 1): 1}))
        self.assert_none((TWO, "abc"))
        self.assert_none((["a", "b"], ["abc"]))

    def test_more_things_than_a_list_may_have(self):
        self.assert_none((["ann"] * 1000, []))
        self.assert_none((TWO, [("ann", "bob", 1)] * 1000))
        self.assert_none((["a" * 10000], []))
