"""Papers that a place has a walk, and that it doesn't hear sooner [4, 15, 16]."""

from itertools import product
from unittest.mock import ANY

from elsetold.papers import all_reaches, are_bounds, is_walk, shows_not_sooner, walk_to
from elsetold.reaches import reaches
from tests.support import (ODD_THINGS, AskingCase, SlowTold, big_web, far_level, far_webs, least_far_walks, places_of,
                           some_starters, some_webs, stretched, stretched_place, unchanged)

END = 10 ** 12
A, B, C, D = [(name, name, 0) for name in "abcd"]
FIVE = (["a", "b"], [("a", "b", 5)])
# A round of nine beats, one beyond it, and a part by itself.
WEB = (["a", "b", "c", "d", "e", "f"],
       [("a", "b", 2), ("a", "c", 4), ("b", "c", 3), ("c", "d", 1), ("e", "f", 6)])
REACHES = {"a": (0, 9), "b": (2, 7), "c": (4, 5), "d": (6, 5), "e": (None, None), "f": (None, None)}
FAR = (["a", "b", "c"], [("a", "b", END), ("b", "c", END - 1)])


def beats_of(web, names, place):
    """The beats of a walk by the names and on to the place, None where the names are no such walk."""
    lengths = {}
    for one, other, beats in web[1]:
        lengths[(one, other)] = lengths[(other, one)] = beats
    steps = list(zip(names, names[1:]))
    if not all([step in lengths for step in steps]):
        return None
    one, other, number = place
    more = {one: 0} if one == other else {other: lengths[(one, other)] - number, one: number}
    if names[-1] not in more:
        return None
    return sum([lengths[step] for step in steps]) + more[names[-1]]


class WalkTo(AskingCase):
    def test_ordinary(self):
        self.assert_told(["a"], walk_to, WEB, ["a"], A, 0)
        self.assert_told(["a", "b"], walk_to, WEB, ["a"], B, 2)
        self.assert_told(["a", "c"], walk_to, WEB, ["a"], C, 4)
        self.assert_told(["a", "b", "c"], walk_to, WEB, ["a"], C, 5)
        self.assert_told(["a", "b", "c", "d"], walk_to, WEB, ["a"], D, 6)
        self.assert_told(["a", "c", "d"], walk_to, WEB, ["a"], D, 5)

    def test_to_a_spot_from_either_end(self):
        self.assert_told(["a"], walk_to, WEB, ["a"], ("a", "c", 1), 1)
        self.assert_told(["a", "b", "c"], walk_to, WEB, ["a"], ("a", "c", 3), 6)
        self.assert_told(["a", "b"], walk_to, WEB, ["a"], ("b", "c", 1), 3)
        self.assert_told(["a", "c"], walk_to, WEB, ["a"], ("b", "c", 2), 5)
        self.assert_told(["b"], walk_to, WEB, ["b"], ("a", "b", 1), 1)

    def test_only_the_kind_of_the_beat_counts(self):
        for beat in [0, 2, 4, 6, END, 10 ** 39]:
            self.assert_told(["a", "c"], walk_to, WEB, ["a"], C, beat)
        for beat in [1, 3, 5, 7, END + 1]:
            self.assert_told(["a", "b", "c"], walk_to, WEB, ["a"], C, beat)

    def test_a_walk_of_more_beats_than_the_beat(self):
        self.assert_told(["a", "c"], walk_to, WEB, ["a"], C, 0)
        self.assertIn(unchanged(self, walk_to, WEB, ["a"], A, 1), [["a", "b", "c", "a"], ["a", "c", "b", "a"]])
        self.assertIs(is_walk(WEB, ["a"], C, 0, ["a", "c"]), False)

    def test_none_of_the_kind(self):
        self.assert_told(None, walk_to, FIVE, ["a"], A, 1)
        self.assert_told(None, walk_to, FIVE, ["a"], B, 4)
        self.assert_told(None, walk_to, FIVE, ["a"], ("a", "b", 2), 3)
        self.assert_told(["b"], walk_to, FIVE, ["a", "b"], ("a", "b", 2), 3)
        for beat in range(4):
            self.assert_told(None, walk_to, WEB, ["a"], ("e", "f", 2), beat)
            self.assert_told(None, walk_to, WEB, ["e"], A, beat)
        self.assert_told(["a"], walk_to, (["a"], []), ["a"], A, 2)
        self.assert_told(None, walk_to, (["a"], []), ["a"], A, 3)

    def test_from_the_nearest_starter(self):
        self.assert_told(["d", "c"], walk_to, WEB, ["a", "d"], C, 1)
        self.assert_told(["a", "c"], walk_to, WEB, ["a", "d"], C, 2)
        self.assert_told(["e"], walk_to, WEB, ["a", "e"], ("e", "f", 3), 3)

    def test_far(self):
        self.assert_told(["a", "b", "c"], walk_to, FAR, ["a"], C, 1)
        self.assert_told(["c"], walk_to, FAR, ["a", "c"], ("b", "c", 2), 1)
        self.assert_told(["a", "b"], walk_to, FAR, ["a", "c"], ("b", "c", 2), 0)

    def test_a_long_walk_there_and_back(self):
        folk = [one + other for one in "abcdef" for other in "abcdefghij"]
        ways = [(one, other, END) for one, other in zip(folk, folk[1:])]
        self.assert_told(folk, walk_to, (folk, ways), ["aa"], ("fj", "fj", 0), 0)
        web = (folk, sorted(ways + [("fh", "fj", 1)]))
        names = unchanged(self, walk_to, web, ["aa"], ("aa", "aa", 0), 1)
        self.assertIn(names, [folk[:58] + middle + folk[57::-1] for middle in (["fi", "fj"], ["fj", "fi"])])
        self.assert_told(True, is_walk, web, ["aa"], ("aa", "aa", 0), 116 * END + 1, names)
        self.assert_told(False, is_walk, web, ["aa"], ("aa", "aa", 0), 116 * END - 1, names)

    def test_it_is_one_of_fewest_beats_and_a_paper(self):
        for at, web in enumerate(some_webs(301, 60, 8, 6) + far_webs(302, 30)):
            starters = some_starters(at, web[0])
            least = least_far_walks(web, starters)
            for place in places_of(web):
                for kind in (0, 1):
                    beats = far_level(web, least, place, kind)
                    names = unchanged(self, walk_to, web, starters, place, kind)
                    if beats is None:
                        self.assertIsNone(names)
                    else:
                        self.assertIs(names.__class__, list)
                        self.assertIn(names[0], starters)
                        self.assertEqual(beats_of(web, names, place), beats)
                        self.assert_walk_from(beats, web, starters, place, names)

    def assert_walk_from(self, beats, web, starters, place, names):
        """It is a paper of this beat and of each second one behind it."""
        for beat in [beats, beats + 2, beats + 10 ** 6, 10 ** 39 + beats % 2]:
            self.assertIs(is_walk(web, starters, place, beat, names), True)
        for beat in [beats - 2, beats - 1, beats + 1, beats + 3, 10 ** 39 + 1 - beats % 2]:
            if beat >= 0:
                self.assertIs(is_walk(web, starters, place, beat, names), False)

    def test_sixty_folk_and_a_hundred_and_fifty_ways(self):
        web, by = big_web(), 333333333333
        far = stretched(web, by)
        slow = SlowTold(web, ["ae", "fc"])
        for place in list(slow.near)[::5]:
            for kind, beats in enumerate(slow.reaches(place)):
                names = walk_to(web, ["fc", "ae"], place, kind)
                self.assertEqual(names and beats_of(web, names, place), beats)
                names = walk_to(far, ["fc", "ae"], stretched_place(place, by), kind)
                self.assertEqual(names and beats_of(far, names, stretched_place(place, by)), beats and beats * by)


class IsWalk(AskingCase):
    def assert_walk(self, web, starters, place, beat, thing):
        self.assert_told(True, is_walk, web, starters, place, beat, thing)
        self.assert_told(True, is_walk, web, starters, place, beat, tuple(thing))

    def assert_none(self, web, starters, place, beat, thing):
        self.assert_told(False, is_walk, web, starters, place, beat, thing)

    def test_ordinary(self):
        self.assert_walk(WEB, ["a"], A, 0, ["a"])
        self.assert_walk(WEB, ["a"], C, 4, ["a", "c"])
        self.assert_walk(WEB, ["a"], C, 5, ["a", "b", "c"])
        self.assert_walk(WEB, ["d", "a"], B, 4, ["d", "c", "b"])

    def test_as_many_beats_or_an_even_number_fewer(self):
        for beat, call in [(3, self.assert_none), (4, self.assert_walk), (5, self.assert_none), (6, self.assert_walk),
                           (7, self.assert_none), (2, self.assert_none), (0, self.assert_none),
                           (END, self.assert_walk), (END + 1, self.assert_none)]:
            call(WEB, ["a"], C, beat, ["a", "c"])

    def test_on_to_a_spot_from_either_end(self):
        spot = ("a", "c", 1)
        self.assert_walk(WEB, ["a"], spot, 1, ["a"])
        self.assert_walk(WEB, ["a"], spot, 7, ["a", "c"])
        self.assert_walk(WEB, ["a"], spot, 8, ["a", "b", "c"])
        self.assert_none(WEB, ["a"], spot, 3, ["a", "b"])
        self.assert_none(WEB, ["a"], spot, 5, ["a", "c"])
        self.assert_none(WEB, ["a"], spot, 4, ["a", "c"])
        self.assert_none(WEB, ["a"], spot, 0, ["a"])
        self.assert_walk(WEB, ["c"], spot, 3, ["c"])

    def test_the_last_one_is_the_places_own(self):
        self.assert_none(WEB, ["a"], B, 4, ["a", "c"])
        self.assert_none(WEB, ["a"], B, 4, ["a"])
        self.assert_none(WEB, ["a"], ("b", "c", 1), 9, ["a"])
        self.assert_none(WEB, ["a", "e"], ("e", "f", 1), 9, ["a"])

    def test_walks_that_turn_about(self):
        self.assert_walk(WEB, ["a"], A, 4, ["a", "b", "a"])
        self.assert_walk(WEB, ["a"], B, 6, ["a", "b", "a", "b"])
        self.assert_none(WEB, ["a"], B, 4, ["a", "b", "a", "b"])
        self.assert_walk(WEB, ["a"], A, 9, ["a", "b", "c", "a"])
        self.assert_walk(WEB, ["a"], A, 2000, ["a", "b"] * 199 + ["a"])

    def test_the_first_one_began(self):
        self.assert_none(WEB, ["a"], B, 0, ["b"])
        self.assert_none(WEB, ["a"], C, 3, ["b", "c"])
        self.assert_walk(WEB, ["a", "b"], C, 3, ["b", "c"])
        self.assert_none(WEB, ["a"], A, 4, ["b", "a"])

    def test_two_next_ones_are_joined_by_a_way(self):
        self.assert_none(WEB, ["a"], D, 9, ["a", "d"])
        self.assert_none(WEB, ["a"], D, 10, ["a", "b", "d"])
        self.assert_none(WEB, ["a"], A, 0, ["a", "a"])
        self.assert_none(WEB, ["a"], B, 2, ["a", "a", "b"])
        self.assert_none(WEB, ["a"], ("e", "f", 1), 9, ["a", "e"])

    def test_a_walk_of_ways_turned_about(self):
        self.assert_walk(WEB, ["d"], A, 5, ["d", "c", "a"])
        self.assert_walk(WEB, ["d"], A, 6, ["d", "c", "b", "a"])

    def test_far(self):
        self.assert_walk(FAR, ["a"], C, 2 * END - 1, ["a", "b", "c"])
        self.assert_none(FAR, ["a"], C, 2 * END, ["a", "b", "c"])
        self.assert_none(FAR, ["a"], C, 2 * END - 3, ["a", "b", "c"])
        self.assert_walk(FAR, ["a"], ("b", "c", END - 2), 2 * END - 2, ["a", "b"])
        self.assert_walk(FAR, ["a"], ("b", "c", END - 2), 2 * END, ["a", "b", "c"])

    def test_no_paper_at_all(self):
        for thing in ODD_THINGS + [ANY, [ANY], ["a", ANY], "a", "ac", {"a": 1}, {"a"}, [["a"]], [("a",)], ["a", None],
                                   ["a", 1], [True], ["a", "z"], ["z"], ["a", ""], ["a", "C"], ["a", ["c"]], b"a"]:
            for beat in [0, 4, 5]:
                for place in [A, C, ("a", "c", 1)]:
                    self.assert_none(WEB, ["a"], place, beat, thing)

    def test_all_short_lists_of_names(self):
        for many in range(1, 5):
            for names in product("abcd", repeat=many):
                for place in [A, D, ("a", "c", 1), ("b", "c", 2)]:
                    beats = beats_of(WEB, names, place) if names[0] == "a" else None
                    for beat in [4, 5, 8, 11]:
                        good = beats is not None and beats <= beat and (beat - beats) % 2 == 0
                        self.assert_told(good, is_walk, WEB, ["a"], place, beat, list(names))


class AllReaches(AskingCase):
    def test_ordinary(self):
        self.assert_told(REACHES, all_reaches, WEB, ["a"])
        self.assert_told({"a": (0, None), "b": (None, 5)}, all_reaches, FIVE, ["a"])
        self.assert_told({"a": (0, 5), "b": (0, 5)}, all_reaches, FIVE, ["a", "b"])
        self.assert_told({"a": (0, None)}, all_reaches, (["a"], []), ["a"])
        self.assert_told({"a": (0, 2 * END - 1), "b": (END, END - 1), "c": (0, 2 * END - 1)}, all_reaches, FAR, ["a", "c"])

    def test_as_each_ones_reaches_and_a_paper_of_bounds(self):
        for at, web in enumerate(some_webs(307, 60, 9, 7) + far_webs(308, 40) + [big_web()]):
            starters = some_starters(at, web[0])
            least = least_far_walks(web, starters)
            told = unchanged(self, all_reaches, web, starters)
            self.assertEqual(told, {name: (least.get((name, 0)), least.get((name, 1))) for name in web[0]})
            self.assertEqual(told, {name: reaches(web, starters, (name, name, 0)) for name in web[0]})
            self.assertTrue(all([pair.__class__ is tuple for pair in told.values()]))
            self.assertIs(are_bounds(web, starters, told), True)


class AreBounds(AskingCase):
    def assert_bounds(self, wanted, web, starters, **others):
        """Of the reaches of all, with these in the place of theirs."""
        thing = {**all_reaches(web, starters), **others}
        self.assert_told(wanted, are_bounds, web, starters, thing)
        self.assert_told(wanted, are_bounds, web, starters, {name: list(thing[name]) for name in reversed(list(thing))})

    def test_the_reaches_are_bounds(self):
        self.assert_bounds(True, WEB, ["a"])
        self.assert_bounds(True, WEB, ["a", "e"])
        self.assert_bounds(True, FAR, ["b"])

    def test_a_number_more_by_one_is_none(self):
        self.assert_bounds(False, WEB, ["a"], a=(0, 10))
        self.assert_bounds(False, WEB, ["a"], b=(3, 7))
        self.assert_bounds(False, WEB, ["a"], b=(2, 8))
        self.assert_bounds(False, WEB, ["a"], c=(5, 5))
        self.assert_bounds(False, WEB, ["a"], d=(6, 6))
        self.assert_bounds(False, WEB, ["a"], d=(None, 5))
        self.assert_bounds(False, WEB, ["a"], d=(6, None))

    def test_a_number_less_by_one_is_one_only_where_nothing_leans_on_it(self):
        self.assert_bounds(True, WEB, ["a"], d=(5, 5))
        self.assert_bounds(True, WEB, ["a"], d=(6, 4))
        self.assert_bounds(True, WEB, ["a"], a=(0, 8))
        self.assert_bounds(False, WEB, ["a"], b=(1, 7))
        self.assert_bounds(False, WEB, ["a"], c=(3, 5))
        self.assert_bounds(True, WEB, ["a"], a=(0, 8), b=(1, 6), c=(3, 4), d=(3, 2))

    def test_numbers_of_any_kind_and_far_too_small_ones(self):
        zero = {name: (0, 0) for name in WEB[0]}
        self.assert_bounds(True, WEB, ["a"], **zero)
        self.assert_bounds(True, WEB, ["a", "b", "c", "d", "e", "f"], **zero)
        self.assert_bounds(True, WEB, ["a"], e=(0, 3), f=(6, 9))
        self.assert_bounds(True, WEB, ["a"], e=(1, 1), f=(7, 7))
        self.assert_bounds(False, WEB, ["a"], e=(1, 1), f=(8, 7))
        self.assert_bounds(False, WEB, ["a"], e=(8, 1), f=(1, 7))

    def test_none_is_more_than_any(self):
        self.assert_bounds(False, WEB, ["a"], e=(10 ** 39, None))
        self.assert_bounds(False, WEB, ["a"], f=(None, 10 ** 39))
        self.assert_bounds(True, WEB, ["a"], e=(10 ** 39, None), f=(10 ** 39, None))
        self.assert_bounds(False, WEB, ["a"], e=(None, 10 ** 39), f=(10 ** 39, None))
        self.assert_bounds(False, FIVE, ["a"], b=(10 ** 39, 5))
        self.assert_bounds(True, FIVE, ["a"], b=(10 ** 39, 5), a=(0, 10 ** 39))
        self.assert_bounds(True, FIVE, ["a"], b=(10 ** 39, 5), a=(0, 10 ** 39 + 5))
        self.assert_bounds(False, FIVE, ["a"], b=(10 ** 39, 5), a=(0, 10 ** 39 + 6))
        self.assert_bounds(False, FIVE, ["a"], b=(10 ** 39, 5), a=(0, 10 ** 39 - 6))
        self.assert_bounds(True, FIVE, ["a"], b=(10 ** 39, 5), a=(0, 10 ** 39 - 5))

    def test_who_began_has_0_ahead(self):
        self.assert_bounds(False, WEB, ["a"], a=(1, 9))
        self.assert_bounds(False, WEB, ["a"], a=(None, 9))
        self.assert_bounds(False, WEB, ["a"], a=(False, 9))
        self.assert_bounds(False, (["a"], []), ["a"], a=(2, None))
        self.assert_bounds(True, (["a"], []), ["a"], a=(0, 77))
        nobody = {name: (None, None) for name in WEB[0]}
        self.assert_bounds(False, WEB, ["a"], **nobody)
        self.assert_bounds(False, WEB, ["a"], **{**nobody, "a": (0, None)})
        self.assert_told(False, are_bounds, WEB, ["a", "d"], REACHES)

    def test_who_did_not_begin_may_have_0_ahead(self):
        self.assert_bounds(True, WEB, ["a"], d=(0, 5), c=(4, 1), b=(2, 4), a=(0, 5))

    def test_from_all_folk(self):
        for name in WEB[0]:
            less = {one: REACHES[one] for one in REACHES if one != name}
            self.assert_told(False, are_bounds, WEB, ["a"], less)
            for key in ["g", "", None, 1, ("a",), b"a"]:
                self.assert_told(False, are_bounds, WEB, ["a"], {**less, key: REACHES[name]})
        for key in ["g", "aa", "", None, 0, True, ("a", 0), b"a"]:
            self.assert_told(False, are_bounds, WEB, ["a"], {**REACHES, key: (None, None)})

    def test_numbers_that_are_none(self):
        for number in ODD_THINGS + [-1, -END, True, "0", [0], ANY]:
            if number is not None and number not in [0, 1, 2, 10 ** 12 + 1, 10 ** 50] or isinstance(number, bool):
                self.assert_bounds(False, WEB, ["a"], e=(number, None), f=(None, None))
                self.assert_bounds(False, WEB, ["a"], d=(0, number))
                self.assert_bounds(False, (["a", "b"], []), ["a"], b=(number, 0))

    def test_pairs_of_another_form(self):
        for pair in [(0,), (0, 9, 9), (), ((0, 9),), ([0], [9]), (0, (9,)), ("0", "9")]:
            self.assert_bounds(False, WEB, ["a"], a=pair)
        for pair in ODD_THINGS + [ANY]:
            if pair.__class__ not in [list, tuple] or len(pair) != 2:
                self.assert_told(False, are_bounds, WEB, ["a"], {**REACHES, "a": pair})
                self.assert_told(False, are_bounds, WEB, ["a"], {**REACHES, "f": pair})

    def test_no_paper_at_all(self):
        for thing in ODD_THINGS + [ANY, list(REACHES.items()), tuple(REACHES), list(REACHES.values()), "abcdef"]:
            self.assert_told(False, are_bounds, WEB, ["a"], thing)

    def test_each_end_of_each_way_and_each_kind_by_itself(self):
        for beats in range(1, 5):
            web = (["a", "b"], [("a", "b", beats)])
            for pairs in product([0, 1, 3, 4, None], repeat=3):
                there, here = (pairs[0], pairs[1]), (0, pairs[2])
                high = [tuple([10 ** 9 if each is None else each for each in pair]) for pair in (here, there)]
                good = all([abs(high[0][kind] - high[1][(kind + beats) % 2]) <= beats for kind in (0, 1)])
                self.assert_told(good, are_bounds, web, ["a"], {"a": here, "b": there})

    def test_no_reach_is_less_than_its_number(self):
        for at, web in enumerate(some_webs(311, 60, 4, 3)):
            starters = some_starters(at, web[0])
            told = all_reaches(web, starters)
            for name, kind, number in product(web[0], (0, 1), (0, 1, 2, 3, 5, 8, None)):
                pair = list(told[name])
                pair[kind] = number
                if unchanged(self, are_bounds, web, starters, {**told, name: pair}) and told[name][kind] is not None:
                    self.assertIsNotNone(number)
                    self.assertLessEqual(number, told[name][kind])


class ShowsNotSooner(AskingCase):
    def shows(self, wanted, place, beat, web=WEB, starters=("a",), thing=None):
        self.assert_told(wanted, shows_not_sooner, web, list(starters), place, beat, thing or REACHES)

    def test_of_a_person(self):
        self.shows(True, C, 4)
        self.shows(False, C, 6)
        self.shows(True, C, 2)
        self.shows(True, C, 5)
        self.shows(False, C, 7)
        self.shows(True, C, 3)
        self.shows(True, D, 6)
        self.shows(True, A, 9)
        self.shows(False, A, 11)
        self.shows(True, A, 0)
        self.shows(False, A, 2)
        self.shows(True, D, 0)

    def test_none_shows_it_of_any_beat(self):
        for beat in [0, 1, 2, END, 10 ** 39]:
            for place in [("e", "e", 0), ("f", "f", 0), ("e", "f", 1), ("e", "f", 5)]:
                self.shows(True, place, beat)

    def test_of_a_spot_by_both_ends(self):
        # Of ("a", "c", 3) the reaches are 3 by a, and 6 by c.
        self.shows(True, ("a", "c", 3), 3)
        self.shows(False, ("a", "c", 3), 5)
        self.shows(True, ("a", "c", 3), 6)
        self.shows(False, ("a", "c", 3), 8)
        self.shows(True, ("a", "c", 3), 1)
        self.shows(True, ("b", "c", 1), 3)
        self.shows(False, ("b", "c", 1), 5)
        self.shows(True, ("b", "c", 2), 5)
        self.shows(False, ("b", "c", 2), 7)
        self.shows(True, ("b", "c", 2), 4)
        self.shows(False, ("b", "c", 2), 6)

    def test_one_end_alone_does_not_show_it(self):
        # At 6 the number of b alone would show it, at 7 that of a alone.
        web = (["a", "b"], [("a", "b", 5)])
        self.shows(True, ("a", "b", 4), 4, web, thing={"a": (0, 9), "b": (4, 5)})
        self.shows(False, ("a", "b", 4), 6, web, thing={"a": (0, 9), "b": (4, 5)})
        self.shows(True, ("a", "b", 4), 5, web, thing={"a": (0, 9), "b": (4, 5)})
        self.shows(False, ("a", "b", 4), 7, web, thing={"a": (0, 9), "b": (4, 5)})
        self.shows(True, ("a", "b", 4), 13, web, thing={"a": (0, None), "b": (None, 5)})

    def test_the_number_itself_may_be_of_the_other_kind(self):
        thing = {**REACHES, "d": (5, 4)}
        self.shows(True, D, 4, thing=thing)
        self.shows(False, D, 6, thing=thing)
        self.shows(True, D, 3, thing=thing)
        self.shows(False, D, 5, thing=thing)
        thing = {**REACHES, "e": (3, None), "f": (3, None)}
        self.shows(True, ("e", "e", 0), 2, thing=thing)
        self.shows(False, ("e", "e", 0), 4, thing=thing)
        self.shows(True, ("e", "f", 1), 3, thing=thing)
        self.shows(False, ("e", "f", 1), 5, thing=thing)

    def test_a_beat_less_than_the_way_on_to_the_spot(self):
        self.shows(True, ("a", "c", 3), 0)
        self.shows(True, ("a", "c", 3), 2)
        self.shows(True, ("a", "c", 1), 1)
        self.shows(False, ("a", "c", 1), 3)

    def test_weaker_bounds_show_less(self):
        zero = {name: (0, 0) for name in WEB[0]}
        for beat in range(12):
            self.shows(beat == 0, C, beat, thing=zero)
            self.shows(beat <= 1, ("a", "c", 3), beat, thing=zero)
            self.shows(beat <= 2, ("a", "c", 2), beat, thing=zero)
        thing = {**REACHES, "d": (4, 5)}
        self.shows(False, D, 6, thing=thing)
        self.shows(True, D, 4, thing=thing)

    def test_no_such_paper(self):
        self.shows(False, C, 0, thing={**REACHES, "c": (5, 5)})
        self.shows(False, A, 0, thing={**REACHES, "f": (None, 3)})
        self.shows(False, A, 0, starters=("a", "b"))
        self.shows(False, A, 0, thing={name: REACHES[name] for name in "abcde"})
        for thing in ODD_THINGS + [ANY]:
            for place in [A, C, ("a", "c", 1)]:
                for beat in [0, 1]:
                    self.assert_told(False, shows_not_sooner, WEB, ["a"], place, beat, thing)

    def test_far(self):
        told = all_reaches(FAR, ["a"])
        spot = ("b", "c", END - 2)
        self.shows(True, spot, 2 * END - 2, FAR, thing=told)
        self.shows(False, spot, 2 * END, FAR, thing=told)
        self.shows(True, spot, 10 ** 39 + 1, FAR, thing=told)

    def test_the_reaches_show_just_that_nobody_hears_sooner(self):
        for at, web in enumerate(some_webs(313, 40, 7, 6) + far_webs(314, 20)):
            starters = some_starters(at, web[0])
            least = least_far_walks(web, starters)
            told = all_reaches(web, starters)
            for place in places_of(web):
                for kind in (0, 1):
                    beats = far_level(web, least, place, kind)
                    for beat in [kind, kind + 2] + ([] if beats is None else [beats, beats + 2, max(kind, beats - 2)]):
                        found = unchanged(self, shows_not_sooner, web, starters, place, beat, told)
                        self.assertIs(found, beats is None or beats >= beat)
