"""Places, their neighbours, and parts [2, 3, 6]."""

import unittest
from unittest.mock import ANY

from elsetold.errors import NoPlace, NoWeb
from elsetold.webs import neighbours, parts
from tests.support import ODD_THINGS, WEB, beside, folk_of, listed, some_webs, tupled, unchanged

FAR = (["ann", "bob", "cat"], [("ann", "bob", 10 ** 12), ("ann", "cat", 2), ("bob", "cat", 1)])


class Neighbours(unittest.TestCase):
    def told(self, web, place):
        told = unchanged(self, neighbours, web, place)
        self.assertIs(told.__class__, list)
        self.assertTrue(all([each.__class__ is tuple for each in told]))
        return told

    def assert_no_place(self, web, place):
        with self.assertRaises(NoPlace) as caught:
            unchanged(self, neighbours, web, place)
        self.assertIs(caught.exception.__class__, NoPlace)

    def test_of_a_person(self):
        self.assertEqual(self.told(WEB, ("ann", "ann", 0)), [("ann", "cat", 1), ("bob", "bob", 0)])
        self.assertEqual(self.told(WEB, ("cat", "cat", 0)), [("ann", "cat", 2), ("bob", "cat", 1), ("dan", "dan", 0)])
        self.assertEqual(self.told(WEB, ("dan", "dan", 0)), [("cat", "cat", 0)])

    def test_of_one_without_ways(self):
        self.assertEqual(self.told(WEB, ("eve", "eve", 0)), [])
        self.assertEqual(self.told((["a"], []), ("a", "a", 0)), [])

    def test_of_a_spot(self):
        self.assertEqual(self.told(WEB, ("ann", "cat", 1)), [("ann", "ann", 0), ("ann", "cat", 2)])
        self.assertEqual(self.told(WEB, ("ann", "cat", 2)), [("ann", "cat", 1), ("cat", "cat", 0)])
        self.assertEqual(self.told(WEB, ("bob", "cat", 1)), [("bob", "bob", 0), ("cat", "cat", 0)])

    def test_on_a_long_way(self):
        end = 10 ** 12
        self.assertEqual(self.told(FAR, ("ann", "bob", 1)), [("ann", "ann", 0), ("ann", "bob", 2)])
        self.assertEqual(self.told(FAR, ("ann", "bob", 77)), [("ann", "bob", 76), ("ann", "bob", 78)])
        self.assertEqual(self.told(FAR, ("ann", "bob", end - 1)), [("ann", "bob", end - 2), ("bob", "bob", 0)])
        self.assertEqual(self.told(FAR, ("bob", "bob", 0)), [("ann", "bob", end - 1), ("cat", "cat", 0)])

    def test_the_list_rises(self):
        folk = folk_of(40)
        web = (folk, [(one, "bd", 3) for one in folk if one < "bd"] + [("bd", one, 2) for one in folk if one > "bd"])
        told = self.told(web, ("bd", "bd", 0))
        self.assertEqual(told, sorted(told))
        self.assertEqual(len(told), 39)
        self.assertEqual(told[0], ("aa", "bd", 2))
        self.assertEqual(told[-1], ("bd", "dj", 1))

    def test_as_two_places_a_beat_apart(self):
        for web in some_webs(11, 60, 7, 5):
            for place, near in beside(web).items():
                self.assertEqual(self.told(web, place), sorted(near))

    def test_by_names_and_with_lists(self):
        told = [("ann", "ann", 0), ("ann", "cat", 2)]
        self.assertEqual(neighbours(web=WEB, place=("ann", "cat", 1)), told)
        self.assertEqual(neighbours(place=["ann", "cat", 1], web=WEB), told)
        self.assertEqual(self.told(listed(WEB), ["ann", "cat", 1]), told)
        self.assertEqual(self.told(WEB, ["ann", "ann", 0]), [("ann", "cat", 1), ("bob", "bob", 0)])
        self.assertEqual(self.told(WEB, ["cat", "cat", 0]), self.told(WEB, ("cat", "cat", 0)))
        self.assertEqual(self.told(tupled(WEB), ("ann", "cat", 1)), told)

    def test_numbers_that_a_spot_has_not(self):
        for number in [0, -1, 3, 4, 10 ** 12, 10 ** 39, True, False, None, "1", [1]]:
            self.assert_no_place(WEB, ("ann", "cat", number))
        self.assert_no_place(WEB, ("ann", "bob", 0))
        self.assert_no_place(WEB, ("ann", "bob", 1))
        self.assert_no_place(FAR, ("ann", "bob", 10 ** 12))

    def test_numbers_that_a_person_has_not(self):
        for number in [1, -1, True, False, None, "0", [0]]:
            self.assert_no_place(WEB, ("ann", "ann", number))

    def test_a_way_turned_about_or_none(self):
        self.assert_no_place(WEB, ("cat", "ann", 1))
        self.assert_no_place(WEB, ("cat", "ann", 2))
        self.assert_no_place(WEB, ("ann", "dan", 1))
        self.assert_no_place(WEB, ("ann", "eve", 0))
        self.assert_no_place(WEB, ("bob", "ann", 0))

    def test_nobody(self):
        self.assert_no_place(WEB, ("fay", "fay", 0))
        self.assert_no_place(WEB, ("ann", "fay", 1))
        self.assert_no_place(WEB, ("aa", "cat", 1))
        self.assert_no_place(WEB, ("", "", 0))

    def test_other_forms(self):
        for place in ["ann", ("ann", 0), ("ann", "ann"), ("ann", "ann", 0, 0), (0, "ann", "ann"), {"ann": 0},
                      (["ann"], ["ann"], 0), (("ann", "ann", 0),), {"ann", 0}]:
            self.assert_no_place(WEB, place)

    def test_odd_things(self):
        for thing in ODD_THINGS:
            self.assert_no_place(WEB, thing)
            self.assert_no_place(WEB, (thing, "cat", 1) if thing != "ann" else None)
            self.assert_no_place(WEB, ("ann", thing, 1))
            self.assert_no_place(WEB, (thing, thing, 1))
            if thing not in [1, 2] or thing is True:
                self.assert_no_place(WEB, ("ann", "cat", thing))

    def test_a_thing_that_is_equal_to_anything(self):
        for place in [(ANY, ANY, 0), ("ann", ANY, 0), (ANY, "ann", 0), ("ann", ANY, 1), (ANY, "cat", 1),
                      ("ann", "cat", ANY), ANY]:
            self.assert_no_place(WEB, place)

    def test_no_web_goes_ahead_of_no_place(self):
        for thing in ODD_THINGS:
            with self.assertRaises(NoWeb):
                neighbours(thing, thing)

    def test_what_is_told_is_the_askers_own(self):
        first = neighbours(WEB, ("ann", "ann", 0))
        first.append("x")
        first[0] = None
        self.assertEqual(neighbours(WEB, ("ann", "ann", 0)), [("ann", "cat", 1), ("bob", "bob", 0)])

    def test_what_is_told_is_not_changed_through_what_was_handed_in(self):
        web, place = listed(WEB), ["ann", "cat", 1]
        told = neighbours(web, place)
        place[2] = 2
        web[1][1][2] = 2
        web[0].clear()
        self.assertEqual(told, [("ann", "ann", 0), ("ann", "cat", 2)])


class Parts(unittest.TestCase):
    def told(self, web):
        told = unchanged(self, parts, web)
        self.assertIs(told.__class__, list)
        self.assertTrue(all([part.__class__ is list for part in told]))
        return told

    def test_ordinary(self):
        self.assertEqual(self.told(WEB), [["ann", "bob", "cat", "dan"], ["eve"]])

    def test_one_and_no_ways(self):
        self.assertEqual(self.told((["ann"], [])), [["ann"]])
        self.assertEqual(self.told((folk_of(60), [])), [[name] for name in folk_of(60)])

    def test_parts_between_one_another(self):
        folk = ["a", "b", "c", "d", "e", "f"]
        self.assertEqual(self.told((folk, [("a", "f", 9), ("b", "d", 2), ("c", "e", 10 ** 12)])),
                         [["a", "f"], ["b", "d"], ["c", "e"]])
        self.assertEqual(self.told((folk, [("a", "f", 1), ("b", "c", 1), ("c", "f", 1)])),
                         [["a", "b", "c", "f"], ["d"], ["e"]])

    def test_a_long_row_turned_about(self):
        folk = folk_of(60)
        row = folk[::2] + folk[1::2][::-1]
        ways = sorted([(min(pair), max(pair), 3) for pair in zip(row, row[1:])])
        self.assertEqual(self.told((folk, ways)), [folk])

    def test_as_who_can_be_come_to(self):
        for web in some_webs(23, 80, 10, 4):
            near = beside(web)
            for part in self.told(web):
                met = {(part[0], part[0], 0)}
                for _ in near:
                    met |= {there for here in met for there in near[here]}
                self.assertEqual(part, sorted([name for name in web[0] if (name, name, 0) in met]))
            self.assertEqual(sorted(sum(parts(web), [])), web[0])
            self.assertEqual(parts(web), sorted(parts(web)))

    def test_by_name_and_with_lists(self):
        self.assertEqual(parts(web=listed(WEB)), parts(tupled(WEB)))
        self.assertEqual(parts(web=listed(WEB)), [["ann", "bob", "cat", "dan"], ["eve"]])

    def test_what_is_told_is_the_askers_own(self):
        web = listed(WEB)
        first = parts(web)
        first[0].append("x")
        first.pop()
        self.assertEqual(web, listed(WEB))
        self.assertEqual(parts(web), [["ann", "bob", "cat", "dan"], ["eve"]])
