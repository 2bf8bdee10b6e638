"""A near web's night, beat by beat [2, 3, 8, 9]."""

from itertools import chain, combinations, permutations, product
from unittest.mock import ANY

from elsetold.beats import beat_by_beat, hearers_at
from elsetold.errors import NoBeat, NoStarters, NoWeb, TooMany
from tests.support import (ODD_THINGS, WEB, AskingCase, folk_of, hearings_of, listed, slow_night, some_starters,
                           some_webs, tupled, unchanged, web_of)

PAIR = (["a", "b"], [("a", "b", 1)])
A, B, C = ("a", "a", 0), ("b", "b", 0), ("c", "c", 0)
NEAR = (["a", "b", "c"], [("a", "b", 399), ("b", "c", 1)])
OVER = (["a", "b", "c"], [("a", "b", 399), ("b", "c", 2)])


class Case(AskingCase):
    def night(self, web, starters):
        told = unchanged(self, beat_by_beat, web, starters)
        self.assertIs(told.__class__, list)
        for tellings in told:
            self.assertIs(tellings.__class__, list)
            for telling in tellings:
                self.assertEqual([telling.__class__, telling[0].__class__, telling[1].__class__], [tuple] * 3)
        return told

    def hearers(self, web, starters, beat):
        told = unchanged(self, hearers_at, web, starters, beat)
        self.assertIs(told.__class__, list)
        self.assertTrue(all([place.__class__ is tuple for place in told]))
        return told


class Night(Case):
    def test_a_cry_along_a_way(self):
        web = (["a", "b"], [("a", "b", 3)])
        one, two = ("a", "b", 1), ("a", "b", 2)
        self.assertEqual(self.night(web, ["a"]), [[(A, one)], [(one, two)], [(two, B)]])
        self.assertEqual(self.night(web, ["b"]), [[(B, two)], [(two, one)], [(one, A)]])

    def test_who_is_told_by_all_neighbours_tells_nobody(self):
        self.assertEqual(self.night(PAIR, ["a", "b"]), [[(A, B), (B, A)]])
        self.assertEqual(self.night((["a", "b"], [("a", "b", 2)]), ["a", "b"]),
                         [[(A, ("a", "b", 1)), (B, ("a", "b", 1))]])

    def test_round_three(self):
        web = (["a", "b", "c"], [("a", "b", 1), ("a", "c", 1), ("b", "c", 1)])
        self.assertEqual(self.night(web, ["a"]), [[(A, B), (A, C)], [(B, C), (C, B)], [(B, A), (C, A)]])
        self.assertEqual(self.night(web, ["a", "b", "c"]), [[(A, B), (A, C), (B, A), (B, C), (C, A), (C, B)]])

    def test_all_who_began_tell_all_neighbours_at_beat_0(self):
        web = (["a", "b", "c"], [("a", "b", 1), ("b", "c", 1)])
        self.assertEqual(self.night(web, ["a", "b"]), [[(A, B), (B, A), (B, C)], [(B, C)]])
        self.assertEqual(self.night(web, ["b"]), [[(B, A), (B, C)]])

    def test_nobody_tells(self):
        self.assertEqual(self.night((["a"], []), ["a"]), [])
        self.assertEqual(self.night((["a", "b"], []), ["b", "a"]), [])
        self.assertEqual(self.night(WEB, ["eve"]), [])

    def test_starters_in_whatever_order(self):
        for starters in permutations(["ann", "bob", "eve"]):
            told = self.night(WEB, list(starters))
            self.assertEqual(told, slow_night(WEB, starters))

    def test_all_webs_of_three_folk(self):
        pairs = [("a", "b"), ("a", "c"), ("b", "c")]
        lots = list(chain.from_iterable([combinations("abc", many) for many in (1, 2, 3)]))
        for lengths in product([0, 1, 2, 3], repeat=3):
            web = web_of("abc", {pair: beats for pair, beats in zip(pairs, lengths) if beats})
            for lot in lots:
                self.assertEqual(self.night(web, list(lot)), slow_night(web, lot))

    def test_many_webs(self):
        for at, web in enumerate(some_webs(41, 150, 8, 6)):
            starters = some_starters(at, web[0])
            self.assertEqual(self.night(web, starters), slow_night(web, starters))

    def test_just_four_hundred_beats(self):
        told = self.night(NEAR, ["a"])
        self.assertEqual(len(told), 400)
        self.assertEqual(told[399], [(B, C)])
        ways = [("a", "b", 133), ("a", "c", 133), ("b", "c", 133)]
        self.assertEqual(len(self.night((["a", "b", "c"], ways), ["a"])), 399)

    def test_four_hundred_beats_and_one_more(self):
        self.assertEqual(self.assert_refused(TooMany, beat_by_beat, OVER, ["a"]).many, 401)
        self.assertEqual(self.assert_refused(TooMany, hearers_at, OVER, ["a"], 0).many, 401)
        far = (["a", "b", "c"], [("a", "b", 10 ** 12), ("a", "c", 10 ** 12)])
        self.assertEqual(self.assert_refused(TooMany, beat_by_beat, far, ["a"]).many, 2 * 10 ** 12)
        self.assertEqual(self.assert_refused(TooMany, hearers_at, far, ["a"], 5).many, 2 * 10 ** 12)

    def test_a_web_is_near_by_all_ways_also_where_nobody_begins(self):
        web = (["a", "b", "c"], [("b", "c", 401)])
        self.assertEqual(self.assert_refused(TooMany, beat_by_beat, web, ["a"]).many, 401)
        self.assertEqual(len(self.night((["a", "b", "c"], [("b", "c", 400)]), ["b"])), 400)

    def test_sixty_folk_and_a_hundred_and_fifty_ways(self):
        folk = folk_of(60)
        ways = [(one, other, 2 if one < "ac" else 3) for one, other in combinations(folk, 2)][:150]
        self.assertEqual(sum([way[2] for way in ways]), 2 * 59 + 2 * 58 + 3 * 33)
        self.assertEqual(self.night((folk, ways), ["bc", "fj"]), slow_night((folk, ways), ["bc", "fj"]))

    def test_by_names_and_with_lists(self):
        told = slow_night(WEB, ["bob", "ann"])
        self.assertEqual(beat_by_beat(starters=("bob", "ann"), web=WEB), told)
        self.assertEqual(self.night(listed(WEB), ["bob", "ann"]), told)
        self.assertEqual(self.night(tupled(WEB), ("bob", "ann")), told)

    def test_what_is_told_is_the_askers_own(self):
        first = beat_by_beat(WEB, ["ann"])
        first[0].clear()
        first[1].append("x")
        first.pop()
        self.assertEqual(beat_by_beat(WEB, ["ann"]), slow_night(WEB, ["ann"]))

    def test_what_is_told_is_not_changed_through_what_was_handed_in(self):
        web, starters = listed(WEB), ["ann"]
        told = beat_by_beat(web, starters)
        web[1].clear()
        starters[0] = "eve"
        self.assertEqual(told, slow_night(WEB, ["ann"]))


class Hearers(Case):
    def test_nobody_hears_at_beat_0(self):
        self.assertEqual(self.hearers(WEB, ["ann"], 0), [])
        self.assertEqual(self.hearers((["a"], []), ["a"], 0), [])

    def test_ordinary(self):
        self.assertEqual(self.hearers(WEB, ["ann"], 1), [("ann", "cat", 1), ("bob", "bob", 0)])
        self.assertEqual(self.hearers(WEB, ["ann"], 2), [("ann", "cat", 2), ("bob", "cat", 1)])
        self.assertEqual(self.hearers(WEB, ["ann"], 3), [("cat", "cat", 0)])
        self.assertEqual(self.hearers(WEB, ["ann"], 4), [("dan", "dan", 0)])
        self.assertEqual(self.hearers(WEB, ["ann"], 5), [])

    def test_told_by_two_is_there_once(self):
        self.assertEqual(self.hearers((["a", "b"], [("a", "b", 2)]), ["a", "b"], 1), [("a", "b", 1)])

    def test_the_last_beat_and_behind_it(self):
        self.assertEqual(self.hearers(NEAR, ["a"], 400), [C])
        for beat in [401, 402, 10 ** 12, 10 ** 39]:
            self.assertEqual(self.hearers(NEAR, ["a"], beat), [])

    def test_many_webs(self):
        for at, web in enumerate(some_webs(43, 60, 7, 5)):
            starters = some_starters(at, web[0])
            heard = hearings_of(slow_night(web, starters))
            for beat in range(30):
                self.assertEqual(self.hearers(web, starters, beat),
                                 sorted([place for place, at in heard if at == beat]))

    def test_by_names_and_with_lists(self):
        told = [("ann", "cat", 1), ("bob", "bob", 0)]
        self.assertEqual(hearers_at(beat=1, starters=["ann"], web=WEB), told)
        self.assertEqual(self.hearers(listed(WEB), ("ann",), 1), told)
        self.assertEqual(self.hearers(tupled(WEB), ["ann"], 1), told)

    def test_no_beat(self):
        for beat in [-1, -10 ** 39, True, False, None, "0", b"0", [0], (0,), {}, {0}]:
            self.assert_refused(NoBeat, hearers_at, WEB, ["ann"], beat)
        for thing in ODD_THINGS:
            if isinstance(thing, int) and not isinstance(thing, bool) and thing >= 0:
                self.assertEqual(self.hearers((["a"], []), ["a"], thing), [])
            else:
                self.assert_refused(NoBeat, hearers_at, WEB, ["ann"], thing)

    def test_what_is_told_is_the_askers_own(self):
        first = hearers_at(WEB, ["ann"], 1)
        first.clear()
        self.assertEqual(hearers_at(WEB, ["ann"], 1), [("ann", "cat", 1), ("bob", "bob", 0)])


class Refusals(Case):
    def assert_no_starters(self, web, starters):
        self.assert_refused(NoStarters, beat_by_beat, web, starters)
        self.assert_refused(NoStarters, hearers_at, web, starters, 0)
        # NoStarters goes ahead of NoBeat and of TooMany.
        self.assert_refused(NoStarters, hearers_at, web, starters, None)

    def test_none_or_alike(self):
        self.assert_no_starters(PAIR, [])
        self.assert_no_starters(PAIR, ())
        self.assert_no_starters(PAIR, ["a", "a"])
        self.assert_no_starters(PAIR, ("a", "b", "a"))
        self.assert_no_starters(PAIR, ["a"] * 1000)

    def test_none_of_the_folk(self):
        self.assert_no_starters(PAIR, ["c"])
        self.assert_no_starters(PAIR, ["a", "c"])
        self.assert_no_starters(PAIR, ["a", ""])
        self.assert_no_starters(PAIR, [A])

    def test_no_list(self):
        for starters in ["a", "ab", {"a": 1}, {"a"}, iter(["a"]), None, b"a"]:
            self.assert_no_starters(PAIR, starters)

    def test_odd_things(self):
        for thing in ODD_THINGS:
            self.assert_no_starters(PAIR, thing)
            self.assert_no_starters(PAIR, [thing])
            self.assert_no_starters(PAIR, ["a", thing])

    def test_a_thing_that_is_equal_to_anything(self):
        for starters in [ANY, [ANY], ["a", ANY]]:
            self.assert_no_starters(PAIR, starters)
        self.assert_refused(NoBeat, hearers_at, PAIR, ["a"], ANY)

    def test_all_folk_may_begin(self):
        folk = folk_of(60)
        self.assertEqual(beat_by_beat((folk, []), folk), [])

    def test_in_the_order_of_the_interface(self):
        for thing in [None, [], "x", (OVER[0], None)]:
            self.assert_refused(NoWeb, beat_by_beat, thing, [])
            self.assert_refused(NoWeb, hearers_at, thing, ["a"], 1)
            self.assert_refused(NoWeb, hearers_at, thing, [], -1)
        self.assert_refused(NoStarters, beat_by_beat, OVER, ["x"])
        self.assert_refused(NoStarters, hearers_at, OVER, [], -1)
        self.assert_refused(NoStarters, hearers_at, OVER, [], 1)
        self.assert_refused(NoBeat, hearers_at, OVER, ["a"], -1)
        self.assert_refused(NoBeat, hearers_at, OVER, ["a"], True)
        self.assert_refused(TooMany, hearers_at, OVER, ["a"], 1)

    def test_what_is_refused_changes_nothing(self):
        self.assert_no_starters(WEB, ["x"])
        self.assertEqual(beat_by_beat(WEB, ["ann"]), slow_night(WEB, ["ann"]))
